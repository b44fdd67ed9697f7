import PyProof.Rows.All
import Wide.All
import OpenK.AllK
import Wide.FinOn
import HandS.ForMost
import HandS.AnyAll
import HandS.EndTab
import PyProof.GenCompD
import HandS.Codes
import KE.KIntText
import HandS.StrMore
import HandS.IsInst
import HandS.Exc
import HandS.TryOnly
import HandS.ExcOwn
import HandS.WordsExc
import HandS.Rev
import KE.DataMinMax
import HandS.SortKw
import PyProof.StrLawsRepr
import HandS.FStr
import HandS.More
import HandS.Dict
import HandS.RaiseMore
import PySem.Challenge.RW_sameasnew_k02_expressions_read_and_writt
set_option Elab.async false
set_option linter.all false
set_option maxRecDepth 100000
set_option maxHeartbeats 4000000
/-! My own small layer over HandS: promises of defs that hold where no repr is under way (guards = []), the repr of data, the end with tables. -/
namespace GD
open PySem PySem.Spec PyProof.Rows L2

/-- a promise that is kept where nothing is being shown -/
structure FnG (P : Program) (w : World) (K : PySem.W.Frag) (mg : Str → Option Value) (base : Heap)
    (CX : CXT) (k : Nat) (f : Addr) (fd : FuncData) (ps : List Str) (sp : Sp) : Prop where
  size : ∀ vs H Q E, sp vs H Q E → vs.length = ps.length
  go : ∀ (A : Around) (outer : List Env) (s : Shared) (H : Hp) (args : Args) (us : List Value)
    (vs : List V) (Q : VK) (E : XK), A.guards = some [] → Room k A →
    Env0 P w K mg base A outer s H → BindsTo s fd args (ps.zip us) → Vals vs us → sp vs H Q E →
    codeAny (model P w) A (.call (.ref f) args) (CR CX outer P w H s Q E) s

section
variable {P : Program} {w : World} {K : PySem.W.Frag} {mg : Str → Option Value} {base : Heap}
variable {CX : CXT} {k : Nat} {f : Addr} {fd : FuncData} {ps : List Str} {sp : Sp}
theorem FnG.of (F : FnOk P w K mg base CX k f fd ps sp) : FnG P w K mg base CX k f fd ps sp :=
  ⟨F.len, fun A outer s H args us vs Q E _ => F.run A outer s H args us vs Q E⟩

/-- a def of the text by its body, with what is known of the guards -/
theorem fnG_of {name qual : Str} {params : Arguments} {body : List Stmt} {scope : Scope}
    {dV kV doc pm cdv ct oc : Value} {an od : Option Addr} {osl : Array (Option Value)} {N : List Str}
    (lk : K.lookup f = some ⟨oc, od, .func (PySem.W.fnOf name qual params body scope dV kV doc pm an cdv ct), osl⟩)
    (hcd : PySem.W.codeIn K cdv qual = true) (S : FnScope N ps scope)
    (size : ∀ vs H Q E, sp vs H Q E → vs.length = ps.length)
    (hbody : ∀ (A : Around) (outer : List Env) (s : Shared) (H : Hp) (vs : List V) (Q : VK) (E : XK),
      (A.deeper (envOfC qual scope s.heap.objs.size f cdv)).guards = some [] →
      Room k (A.deeper (envOfC qual scope s.heap.objs.size f cdv)) → sp vs H Q E →
      ∃ t, PSs (cxOf CX P w K mg base N qual scope f cdv A outer s H E) body t ∧
        t { nx := fun _ H' => Q .non H', rt := Q } (start N vs) H) :
    FnG P w K mg base CX (k + 1) f (PySem.W.fnOf name qual params body scope dV kV doc pm an cdv ct) ps sp := by
  refine ⟨size, fun A outer s H args us vs Q E hgd hr z0 hb r hs => ?_⟩
  have hl := size _ _ _ _ hs
  have kx : K.In s.heap := z0.mod.kin.keeps fun b o e => (z0.bs b o e).1
  have nl : s.heap.NoLimit := z0.mod.nolimit.keeps fun b o e => (z0.bs b o e).1
  have kind : ∀ y ∈ ps.zip us, scope.names.lookup y.1 = some .local ∨
      (scope.names.lookup y.1 = some .cell ∧
        ((cellsFrom (s.heap.objs.size + 1) scope.names []).lookup y.1).isSome = true) := by
    rintro ⟨n, v⟩ hy
    rcases S.par n (List.of_mem_zip hy).1 with q | q
    · exact .inl q
    · exact .inr ⟨q, PySem.W.cellsFrom_some _ _ _ (.inl q)⟩
  refine codeAny_call_function hr.depth (kx _ _ lk) rfl S.co S.gen rfl (PySem.W.codeRec_of kx hcd) (hb _ _ _ _ ?_)
  refine wpAny_newFunctionEnv_cells S.kind kind fun env he s1 x => ?_
  subst he
  refine ⟨nl.keeps x.toInCall.keep, codeAny_func ?_⟩
  obtain ⟨t, ht, hq⟩ := hbody A outer s H vs Q E hgd (hr.deeper _) hs
  have J := inv_start (CX := CX) (E := E) (qual := qual) (f := f) (cd := cdv) S hr.hd z0 hl r x
  refine wpAny_mono (ht.run [] s1 (start N vs) H _ J hq) (fun fl s' hs' => ?_) fun e s' hs' => hs'
  cases fl with
  | ret u =>
    obtain ⟨v, σ2, H2, I2, rv, q⟩ := hs'
    exact ⟨v, H2, I2.os, I2.bare, I2.base, I2.hok, rv, q⟩
  | next =>
    obtain ⟨σ2, H2, I2, q⟩ := hs'
    exact ⟨V.non, H2, I2.os, I2.bare, I2.base, I2.hok, rfl, q⟩
  | brk =>
    obtain ⟨_, _, _, q⟩ := hs'
    exact q.elim
  | cont =>
    obtain ⟨_, _, _, q⟩ := hs'
    exact q.elim

theorem okG {x qual : Str} {st : Stmt} {N : List Str} (F : Fun K x qual st f fd) (S : FnScope N ps (defScope st))
    (size : ∀ vs H Q E, sp vs H Q E → vs.length = ps.length)
    (hbody : ∀ (cdv : Value) (A : Around) (outer : List Env) (s : Shared) (H : Hp) (vs : List V) (Q : VK) (E : XK),
      (A.deeper (envOfC qual (defScope st) s.heap.objs.size f cdv)).guards = some [] →
      Room k (A.deeper (envOfC qual (defScope st) s.heap.objs.size f cdv)) → sp vs H Q E →
      ∃ t, PSs (cxOf CX0 P w K mg base N qual (defScope st) f cdv A outer s H E).nox (defBody st) t ∧
        t { nx := fun _ H' => Q .non H', rt := Q } (start N vs) H) :
    FnG P w K mg base CX0 (k + 1) f fd ps sp := by
  obtain ⟨oc, od, kV, doc, pm, an, cdv, ct, osl, rfl, lk, hcd⟩ := F.ex
  refine fnG_of lk hcd S size fun A outer s H vs Q E hgd hr hs => ?_
  obtain ⟨t, h, q⟩ := hbody cdv A outer s H vs Q E hgd hr hs
  exact ⟨t, h.nox, q⟩

/-- a def of the text, where its code object is asked for: k is what stands of it in the written part -/
theorem okC {x qual : Str} {st : Stmt} {N : List Str} {oc : Value} {od an : Option Addr} {osl : Array (Option Value)} {kV doc pm cdv ct : Value}
    (lk : K.lookup f = some ⟨oc, od, .func (PySem.W.fnOf x qual (defArgs st) (defBody st) (defScope st) .none kV doc pm an cdv ct), osl⟩)
    (hcd : PySem.W.codeIn K cdv qual = true) (S : FnScope N ps (defScope st))
    (size : ∀ vs H Q E, sp vs H Q E → vs.length = ps.length)
    (hbody : ∀ (A : Around) (outer : List Env) (s : Shared) (H : Hp) (vs : List V) (Q : VK) (E : XK),
      Room k (A.deeper (envOfC qual (defScope st) s.heap.objs.size f cdv)) → sp vs H Q E →
      ∃ t, PSs (cxOf CX0 P w K mg base N qual (defScope st) f cdv A outer s H E).nox (defBody st) t ∧
        t { nx := fun _ H' => Q .non H', rt := Q } (start N vs) H) :
    FnOk P w K mg base CX0 (k + 1) f (PySem.W.fnOf x qual (defArgs st) (defBody st) (defScope st) .none kV doc pm an cdv ct) ps sp := by
  refine fn_of lk hcd S size fun A outer s H vs Q E hr hs => ?_
  obtain ⟨t, h, q⟩ := hbody A outer s H vs Q E hr hs
  exact ⟨t, h.nox, q⟩
end

section
variable {X : Cx} {CX : CXT} {k : Nat} {f : Addr} {fd : FuncData} {ps : List Str} {sp : Sp} {dvs : List V}
variable {ds : List Value} {E : XK} {x : Str} {p pos : Pos} {e : Expr} {es : List Expr} {t : TA}
/-- a call of such a def -/
theorem pe_callG (F : FnG X.prog X.w X.K X.mg X.base CX k f fd ps sp) (hgd : X.A.guards = some []) (hr : Room k X.A) (hg : Gl X x)
    (hm : X.mg x = some (.ref f)) (hk : PySem.W.keepIn X.K (.ref f) = true) (hb : Binds X.K fd ps ds) (hd : Vals dvs ds) (hx : Passes CX X E)
    (ha : PA X (e :: es) t) (hdb : (x == ("__debug__" : Str)) = false := by decide)
    (he : starEach (e :: es) X.env = (false, eval e X.env) :: starEach es X.env := by rfl)
    (hpl : (backTo pos (starEach es X.env)).any (·.1) = false := by rfl) :
    PE X (.Call (.Name x p) (e :: es) [] pos) (tCall sp dvs E t) := by
  refine ⟨fun pins s σ H Q I h => wpAny_Call_Name_kw (ld_glob I hg hm ?_ hdb)⟩
  refine PySem.W.callWith_K (h₀ := X.base) I.ok.mod.kin hk (thn (ha.run pos pins s σ H _ I h) fun us s1 hh => ?_) he hpl
  obtain ⟨vs, H1, I1, r, q⟩ := hh
  refine ⟨I1.kIn, ?_⟩
  have r2 : Vals (vs ++ dvs) (us ++ ds) := r.append hd
  have hl : (us ++ ds).length = ps.length := by
    rw [← r2.length]
    exact F.size _ _ _ _ q
  refine wpAny_call (codeAny_mono (F.go X.A X.stack s1 H1 ⟨us, []⟩ (us ++ ds) (vs ++ dvs) Q E hgd hr I1.env0 (hb s1 us I1.kIn hl) r2 q) fun r s' hq => ?_)
  cases r with
  | error e => exact hx pins σ H1 s1 e s' I1 hq
  | ok fl =>
    cases fl with
    | ret u => exact I1.after hq
    | next => exact hq.elim
    | brk => exact hq.elim
    | cont => exact hq.elim

/-! ### repr of data -/
/-- repr(x) of none-free data: what it shows -/
theorem cr_repr (hgd : X.A.guards = some []) (hu : X.A.units + 64 < cLine) : CallR X (.builtin "repr") (fun xs H Q => ∃ (v : V) (d : PyData), xs = [v] ∧ Dp X.K H v d ∧ d ≠ .none ∧
    d.showable = true ∧ d.hasDict = false ∧ d.depth ≤ 60 ∧ d.shown.length ≤ sizeLine ∧ Q (.str d.shown) H) := by
  intro pins s σ H xs us Q I r h
  obtain ⟨v, d, rfl, hd, hnn, hs, hn, hdp, hz, q⟩ := h
  obtain ⟨u, rfl, ru⟩ := vals1 r
  have fin : ∀ tk, EP X pins σ Q (.str d.shown tk) s := fun tk => ⟨.str _, H, I, ⟨_, rfl⟩, q⟩
  cases hd with
  | non => exact absurd rfl hnn
  | bl b =>
    obtain rfl : u = Value.bool b := ru
    refine PySem.P.repr_of_bool ?_
    have e : (PyData.bool b).shown = (if b then ("True" : Str) else "False") := by
      simp only [PyData.shown]
    rw [e] at q
    cases b
    · exact ⟨.str _, H, I.tok _, ⟨_, rfl⟩, q⟩
    · exact ⟨.str _, H, I.tok _, ⟨_, rfl⟩, q⟩
  | int i =>
    obtain ⟨t, rfl⟩ := ru
    refine PySem.P.repr_of_int ?_ ⟨.str _, H, I.tok _, ⟨_, rfl⟩, ?_⟩
    · simpa only [PyData.showable, decide_eq_true_eq] using hs
    · simpa only [PyData.shown] using q
  | str a =>
    obtain ⟨t, rfl⟩ := ru
    refine PySem.P.repr_of_str ⟨.str _, H, I.tok _, ⟨_, rfl⟩, ?_⟩ ?_
    · simpa only [PyData.shown] using q
    · simpa only [PyData.shown] using hz
  | lst hs' ha' =>
    obtain rfl : u = Value.ref _ := ru
    obtain ⟨as, rr⟩ := Dp.reads I _ _ _ (Dp.lst hs' ha') rfl
    exact repr_of_reads' rr hs (PyData.noDict_hsm hn) hgd (by omega) (fun _ _ e => e)
      (fun h' u tk hk => ⟨.str _, H, I.kept hk, ⟨_, rfl⟩, q⟩) hz
  | tup hs' ha' =>
    obtain rfl : u = Value.ref _ := ru
    obtain ⟨as, rr⟩ := Dp.reads I _ _ _ (Dp.tup hs' ha') rfl
    exact repr_of_reads' rr hs (PyData.noDict_hsm hn) hgd (by omega) (fun _ _ e => e)
      (fun h' u tk hk => ⟨.str _, H, I.kept hk, ⟨_, rfl⟩, q⟩) hz
end
end GD

set_option maxRecDepth 100000
set_option maxHeartbeats 4000000
namespace GD
open PySem PySem.Spec PyProof.Rows L2

/-- an empty table of a code object -/
abbrev tb0 : Obj := { cls := .none, data := .fields #[] }
/-- the script as it is laid -/
abbrev so (vs : List Value) : Obj := { cls := .type "list", data := .seq vs.toArray }
/-- at the entry: the tables at T, and the script unless it belongs to the written part -/
def atEntry (K : PySem.W.Frag) (T : List Addr) (a : Addr) (vs : List Value) (ns : List Int) : Hp := fun b =>
  if b ∈ T then some (.tbl #[]) else if b = a ∧ K.lookup a = none then some (.frz (so vs) (.lst (ns.map V.int))) else none

section
variable {P : Program} {w : World} {K : PySem.W.Frag} {mg mb : Str → Option Value} {CX : CXT} {k : Nat} {fa a : Addr}
variable {cs : List (Addr × Addr)} {fd : FuncData} {x : Str} {sp : Sp} {s₁ : Shared} {vs : List Value} {ns : List Int}
theorem entry_call (kx : K.In s₁.heap) (hns : s₁.heap.Ns mainGlobals mg) (hb : s₁.heap.Ns builtinsNs mb)
    (hbb : ∀ x : Str, x ≠ "__name__" → mb x = bootBuiltins x) (hlim : s₁.heap.NoLimit) (hg : s₁.gens = #[])
    (hT : ∀ p ∈ cs, s₁.heap.get? p.2 = some tb0) (nT : ∀ p ∈ cs, K.lookup p.2 = none) (C : ∀ p ∈ cs, PySem.W.CodeHd s₁.heap p.1 p.2)
    (hbm : ∃ (bm : Addr) (ob : Obj), mg "__builtins__" = some (.ref bm) ∧ bm ≠ builtinsNs ∧ s₁.heap.get? bm = some ob ∧
      ob.cls = .type "module" ∧ ob.dict = some builtinsNs ∧ ob.data = .plain)
    (ha : s₁.heap.get? a = some (so vs)) (hi : IntsAre vs ns) (hl : ns.length ≤ sizeLine) (hr : Room k callerA)
    (F : ∀ base : Heap, K.In base → base.Ns mainGlobals mg → (∀ p ∈ cs, GxR.TabB base mg p.1 p.2) → FnG P w K mg base CX k fa fd [x] sp)
    (hbind : ∀ (s : Shared) (u : Value), BindsTo s fd ⟨[u], []⟩ [(x, u)])
    (hsp : ∀ H : Hp, (∀ p ∈ cs, H p.2 = some (.tbl #[])) → SqL K H a (ns.map V.int) → sp [.ref a] H (fun v _ => v = .bl true) fun _ _ _ => False)
    (hCX : ∀ H e s', CX [] H s₁ (fun _ _ _ => False) e s' → False) :
    codeAny (model P w) callerA (.call (.ref fa) ⟨[.ref a], []⟩)
      (fun r s' => r = .ok (.ret (.bool true)) ∧ OldK s₁.heap s'.heap ∧ s'.os = s₁.os ∧ AllBare s'.gens) s₁ := by
  obtain ⟨T, eT⟩ : ∃ T, T = cs.map (·.2) := ⟨_, rfl⟩
  have inT : ∀ p ∈ cs, p.2 ∈ T := fun p hp => eT ▸ List.mem_map.mpr ⟨p, hp, rfl⟩
  have ofT : ∀ b ∈ T, s₁.heap.get? b = some tb0 ∧ K.lookup b = none := fun b hb => by
    rw [eT] at hb
    obtain ⟨p, hp, rfl⟩ := List.mem_map.mp hb
    exact ⟨hT p hp, nT p hp⟩
  have aT : a ∉ T := fun z => by
    have q := (ofT a z).1
    rw [ha] at q
    cases (congrArg Obj.data (Option.some.inj q) : Data.seq vs.toArray _ = Data.fields #[])
  have rv : Vals (ns.map V.int) vs := vals_ints hi
  obtain ⟨H, eH⟩ : ∃ H, H = atEntry K T a vs ns := ⟨_, rfl⟩
  have hTb : ∀ b ∈ T, H b = some (.tbl #[]) := fun b hb => by rw [eH]; exact if_pos hb
  have hAb : K.lookup a = none → H a = some (.frz (so vs) (.lst (ns.map V.int))) := fun z => by
    rw [eH]
    exact (if_neg aT).trans (if_pos ⟨rfl, z⟩)
  have hOt : ∀ b, b ∉ T → ¬(b = a ∧ K.lookup a = none) → H b = none := fun b h1 h2 => by
    rw [eH]
    exact (if_neg h1).trans (if_neg h2)
  have cases3 : ∀ b, (b ∈ T ∧ H b = some (.tbl #[])) ∨ ((b = a ∧ K.lookup a = none) ∧ H b = some (.frz (so vs) (.lst (ns.map V.int)))) ∨ (b ∉ T ∧ H b = none) := fun b => by
    by_cases h1 : b ∈ T
    · exact .inl ⟨h1, hTb b h1⟩
    · by_cases h2 : b = a ∧ K.lookup a = none
      · exact .inr (.inl ⟨h2, by rw [h2.1]; exact hAb h2.2⟩)
      · exact .inr (.inr ⟨h1, hOt b h1 h2⟩)
  have hok : HOk P w H s₁.heap := fun b u e => by
    rcases cases3 b with ⟨h1, h2⟩ | ⟨⟨rfl, h1⟩, h2⟩ | ⟨_, h2⟩
    · rw [h2] at e
      cases e
      exact (ofT b h1).1
    · rw [h2] at e
      cases e
      exact ⟨ha, by rw [List.length_map]; exact hl, vs, _, rv, ha⟩
    · rw [h2] at e
      cases e
  have hS : SqL K H a (ns.map V.int) := by
    cases hk : K.lookup a with
    | none => exact .inl (.inr ⟨so vs, hAb hk⟩)
    | some o =>
      have e := kx a o hk
      rw [ha] at e
      cases e
      exact .inr ⟨_, vs.toArray, _, hk, rfl, rfl, rfl, by rw [List.size_toArray, hi.length]; exact hl, by simpa using rv⟩
  -- what is neither a sequence nor an empty table is not tracked
  have plain : ∀ {b : Addr} {o : Obj}, s₁.heap.get? b = some o → (∀ us n, o.data ≠ .seq us n) → o.data ≠ .fields #[] → H b = none := fun {b o} e h1 h2 => by
    rcases cases3 b with ⟨q, _⟩ | ⟨⟨rfl, _⟩, _⟩ | ⟨_, q⟩
    · have q := (ofT b q).1
      rw [e] at q
      cases q
      exact (h2 rfl).elim
    · rw [ha] at e
      cases e
      exact (h1 _ _ rfl).elim
    · exact q
  have stay : ∀ {b : Addr} {o : Obj}, s₁.heap.get? b = some o → H b = none → (hidT s₁.heap H).get? b = some o := fun e n => hidT_get e n
  have nsB : ∀ {b : Addr} {m : Str → Option Value}, s₁.heap.Ns b m → (hidT s₁.heap H).Ns b m := fun {b m} ⟨o, es, ep, e, d, r⟩ =>
    ⟨o, es, ep, stay e (plain e (fun us n z => by rw [d] at z; cases z) fun z => by rw [d] at z; cases z), d, r⟩
  have kB : K.In (hidT s₁.heap H) := fun b o e => stay (kx b o e) (by
    rcases cases3 b with ⟨q, _⟩ | ⟨⟨rfl, q⟩, _⟩ | ⟨_, q⟩
    · rw [(ofT b q).2] at e
      cases e
    · rw [q] at e
      cases e
    · exact q)
  have mB : L2.Mod K mg (hidT s₁.heap H) := ⟨kB, nsB hns, ⟨mb, nsB hb, hbb⟩, let ⟨mc, h1, h2⟩ := hlim; ⟨mc, nsB h1, h2⟩⟩
  have notNs : ∀ b o, s₁.heap.get? b = some o → (∃ us, o.data = .fields us) ∨ o.data = .plain → mainGlobals ≠ b := fun b o e h z => by
    obtain ⟨o2, es, ep, e2, d, _⟩ := hns
    rw [z, e] at e2
    cases e2
    rcases h with ⟨us, h⟩ | h
    · rw [h] at d
      cases d
    · rw [h] at d
      cases d
  have tB : ∀ p ∈ cs, GxR.TabB (hidT s₁.heap H) mg p.1 p.2 := fun p hp => by
    have hp0 := hT p hp
    refine ⟨?_, ?_, notNs p.2 _ hp0 (.inl ⟨_, rfl⟩)⟩
    · obtain ⟨o, us, file, tf, flags, tg, inF, text, tt, e1, r1, r2, r3, rest⟩ := C p hp
      refine ⟨o, us, file, tf, flags, tg, inF, text, tt, stay e1 (plain e1 (fun vs n z => ?_) fun z => ?_), r1, r2, r3, rest⟩
      · rw [r2] at z
        cases z
      · rw [r2] at z
        cases z
        simp at r3
    · obtain ⟨bm, ob, b1, b2, b3, b4, b5, b6⟩ := hbm
      refine ⟨bm, ob, b1, b2, (notNs bm ob b3 (.inr b6)).symm, fun z => ?_, stay b3 (plain b3 (fun vs n z => ?_) fun z => ?_), b4, b5, b6⟩
      · rw [z, hp0] at b3
        cases b3
        cases b6
      · rw [b6] at z
        cases z
      · rw [b6] at z
        cases z
  have z0 : Env0 P w K mg (hidT s₁.heap H) callerA [] s₁ H :=
    ⟨rfl, mB, fun b o e => of_hidT e, Nat.le_of_eq (hidT_size _ _), trivial, (fun b hb => by cases hb), hok, .of_eq hg⟩
  refine codeAny_mono ((F _ kB (nsB hns) tB).go callerA [] s₁ H ⟨[.ref a], []⟩ [.ref a] [.ref a] _ _ rfl hr z0 (hbind s₁ (.ref a))
    (.cons rfl .nil) (hsp H (fun p hp => hTb p.2 (inT p hp)) hS)) fun r s' h => ?_
  cases r with
  | error e => exact (hCX H e s' h).elim
  | ok fl =>
    cases fl with
    | next => exact h.elim
    | brk => exact h.elim
    | cont => exact h.elim
    | ret u =>
      obtain ⟨v, H', os, bare, un, hok', r', q⟩ := h
      obtain rfl : v = .bl true := q
      obtain rfl : u = Value.bool true := r'
      have same : ∀ b o, b ∉ T → s₁.heap.get? b = some o → s'.heap.get? b = some o := fun b o nb e => by
        rcases cases3 b with ⟨q, _⟩ | ⟨_, q⟩ | ⟨_, q⟩
        · exact absurd q nb
        · obtain ⟨e1, _⟩ := hok b _ q
          obtain ⟨e2, _⟩ := hok' b _ (un.frzs b _ _ q)
          rw [e] at e1
          cases e1
          exact e2
        · exact un.keep b o e q (fun z => by cases z) (by simp)
      have grown : ∀ p ∈ cs, ∃ more : Array Value, s'.heap.get? p.2 = some { cls := .none, data := .fields more } := fun p hp => by
        obtain ⟨more, z⟩ := un.tbls p.2 #[] (hTb p.2 (inT p hp))
        exact ⟨_, hok' p.2 _ z⟩
      refine ⟨rfl, ⟨fun b o e => ?_, fun b o e => ?_⟩, os, bare⟩
      · by_cases hb : b ∈ T
        · rw [eT] at hb
          obtain ⟨p, hp, rfl⟩ := List.mem_map.mp hb
          obtain ⟨more, hm⟩ := grown p hp
          rw [hT p hp] at e
          cases e
          exact .inr (.inl ⟨((C p hp).tab (hT p hp)).isCodeTable, rfl, #[], more, rfl, by rw [Array.empty_append]; exact hm⟩)
        · exact .inl (same b o hb e)
      · by_cases hb : b ∈ T
        · rw [eT] at hb
          obtain ⟨p, hp, rfl⟩ := List.mem_map.mp hb
          obtain ⟨more, hm⟩ := grown p hp
          exact ⟨_, hm⟩
        · exact ⟨o, same b o hb e⟩
end

/-- the table of the top's def dn: its code object c, the table P -/
def TabsAt (q : Program) (K : PySem.W.Frag) (mg : Str → Option Value) (h : Heap) : Prop :=
  ∀ (dn : Str) (f c P : Addr) (o : Obj) (fd : FuncData) (e : Value) (dd : Option Addr) (us : Array Value) (sl : Array (Option Value)),
    ((recsOf q).any fun r => r.name == dn) = true → mg dn = some (.ref f) → K.lookup f = some o → o.data = .func fd → fd.code = .ref c →
    K.lookup c = some ⟨e, dd, .fields us, sl⟩ → us[11]? = some (.ref P) → h.get? P = some tb0 ∧ PySem.W.CodeHd h c P

/-- what is to be shown of the law's def at the head's heap h -/
def LawG (l : PySem.W.OpenLaw) (w : World) (K : PySem.W.Frag) (CX : CXT) (k n : Nat) (x : Str) (mg : Str → Option Value) (fa : Addr) (h : Heap) : Prop :=
  ∃ (fd : FuncData) (cs : List (Addr × Addr)) (sp : Sp), (∀ p ∈ cs, h.get? p.2 = some tb0) ∧ (∀ p ∈ cs, K.lookup p.2 = none) ∧
    (∀ p ∈ cs, PySem.W.CodeHd h p.1 p.2) ∧ (∀ (s : Shared) (u : Value), BindsTo s fd ⟨[u], []⟩ [(x, u)]) ∧
    (∀ (H : Hp) (a : Addr) (ns : List Int), ns.length ≤ n → (∀ z ∈ ns, Builtin.Int.intBits z ≤ 1048576) → (∀ p ∈ cs, H p.2 = some (.tbl #[])) →
      SqL K H a (ns.map V.int) → sp [.ref a] H (fun v _ => v = .bl true) fun _ _ _ => False) ∧
    ∀ base : Heap, K.In base → base.Ns mainGlobals mg → (∀ p ∈ cs, GxR.TabB base mg p.1 p.2) → FnG l.prog w K mg base CX k fa fd [x] sp

theorem walk_ofG {l : PySem.W.OpenLaw} {n k : Nat} {q : Program} {loose : List Str} {XP : (Str → Option Value) → Heap → Prop}
    {YP : World → Heap → Prop} {d : DefRec} {K : Params → PySem.W.Frag} {CX : World → CXT} {x : Str}
    (hn : l.most = some n) (hn2 : n ≤ sizeLine) (hdf : d.params.defaults = []) (hr : Room k callerA)
    (hY : ∀ (w : World) (h : Heap), YP w h → (K w.params).In h)
    (F : ∀ (w : World) (mg : Str → Option Value) (fa : Addr) (h : Heap), YP w h → (K w.params).In h → h.Ns mainGlobals mg →
      mg d.name = some (.ref fa) → TabsAt q (K w.params) mg h → LawG l w (K w.params) (CX w) k n x mg fa h)
    (hCX : ∀ (w : World) (H : Hp) (s : Shared) (e : Value) (s' : Shared), CX w [] H s (fun _ _ _ => False) e s' → False) :
    PySem.W.WalkO q loose XP YP l.row.toRowW d [] (fun f vs => PySem.call f vs) := by
  refine Att.attach_callB hn hdf fun w s₀ s₁ mg mb fa o pm cd doc a vs ns G Y ho hd hcd hmg hobj hints hlen hbits hg => ?_
  have kx := hY w _ Y
  have tabs : TabsAt q (K w.params) mg s₁.heap := fun dn f c P o fd e dd us sl h1 h2 h3 h4 h5 h6 h7 => by
    obtain ⟨r, hr1, hr2⟩ := List.any_eq_true.mp h1
    obtain rfl : r.name = dn := beq_iff_eq.mp hr2
    obtain ⟨a', o', fd', c', P', g1, g2, g3, g4, g5, g6⟩ := G.T.tab r hr1
    rw [h2] at g1
    cases g1
    have z1 := kx _ _ h3
    rw [z1] at g2
    cases g2
    rw [h4] at g3
    cases g3
    rw [h5] at g4
    cases g4
    have hd := PySem.W.CodeHd.of g5 g6
    obtain ⟨⟨oc, vc, e1, _, e3, e4⟩, hP⟩ := g6
    have z2 := kx _ _ h6
    rw [z2] at e1
    cases e1
    cases e3
    rw [h7] at e4
    cases e4
    exact ⟨hP, hd⟩
  obtain ⟨fd, cs, sp, hT, nT, C, hb, hsp, hF⟩ := F w mg fa _ Y kx G.T.g hmg tabs
  exact entry_call kx G.T.g G.T.b G.T.builtins G.T.nolimit hg hT nT C G.T.bmain hobj hints (Nat.le_trans hlen hn2) hr hF hb
    (fun H hH hS => hsp H a ns hlen hbits hH hS) fun H e s' => hCX w H s₁ e s'
end GD

set_option maxRecDepth 100000
set_option maxHeartbeats 4000000
namespace GD
open PySem PySem.Spec PyProof.Rows L2

/-- the element of a generator over the signs of a text, where it may call a def of the module: a test of the sign c -/
def EltD (X : Cx) (scope : Scope) (x : Str) (elt : Expr) (pb : Nat → Bool) : Prop :=
  ∀ (cenv : Env) (A' : Around) (E' : Value → Shared → Prop) (c : Nat) (t : Tok) (s₂ : Shared) (m₂ : Str → Option Value),
    cenv.scope = scope → cenv.globals = X.env.globals → A'.handled = none → A'.depth ≤ X.A.depth + 1 → A'.units ≤ X.A.units + 8 →
    (∀ b o, X.base.get? b = some o → s₂.heap.get? b = some o) → s₂.heap.Ns cenv.locals m₂ → m₂ x = some (.str ⟨#[c]⟩ t) →
    wpAny (model X.prog X.w) A' (eval elt cenv) (fun y s₃ => y = .bool (pb c) ∧ Keeps s₂ s₃) E' s₂

section
variable {X : Cx} {pins : List (Addr × Obj)} {σ : L2.St} {H : Hp} {s : Shared}
theorem gen_signs {c P : Addr} {elt iter : Expr} {x : Str} {px gpos : Pos} {scope : Scope} {pb : Nat → Bool} {te : TE} {k : Nat}
    {Q' : Value → Shared → Prop} {R : Str → Hp → Prop} (hr : Room k X.A) (TB : GxR.TabB X.base X.mg c P) (hcode : X.env.code = .ref c)
    (S : GxR.GenS X.env scope x) (hi : PE X iter te) (hel : L2.Mod X.K X.mg X.base → EltD X scope x elt pb) (hs : ∀ v, genFold iter X.env v = pure v) (I : Inv X pins σ H s)
    (h : te σ H fun v H1 => ∃ a : Str, v = .str a ∧ GxR.TabG H1 P ∧ R a H1)
    (hQ : ∀ a H1 g s5, R a H1 → GxR.Ready X pins σ H1 P a pb g s5 → Q' (.ref g) s5) :
    wpAny (model X.prog X.w) X.A (eval (.GeneratorExp elt [⟨.Name x px, iter, [], 0⟩] scope gpos) X.env) Q' X.xe s := by
  refine wpAny_GeneratorExp_walksQD hr.hd S.co (closure_ok S.free) S.cell S.dot S.loc S.kind (by have := hr.dp; omega) ?_ hs
  refine thn (hi.run pins s σ H _ I h) fun xv s1 hv => ?_
  obtain ⟨v, H1, I1, r1, a, rfl, ⟨ps, hP, ht⟩, q1⟩ := hv
  obtain ⟨t, rfl⟩ := _root_.id r1
  refine wpAny_pyIter_str fun o St W hst => ?_
  have hP1 : s1.heap.get? P = some { cls := .none, data := .fields ps } := I1.hok P _ hP
  have ltP : P < s1.heap.objs.size := Heap.lt_size hP1
  have up : ∀ b u, s1.heap.get? b = some u → (s1.heap.push o).get? b = some u := fun b u e => Heap.get?_push_of_some _ e
  have cd : PySem.W.CodeHd (s1.heap.push o) c P := TB.code.keeps fun b u e => up b u (I1.bk b u e)
  have nl2 : (s1.heap.push o).NoLimit := I1.nolimit.push o
  have sz2 : (s1.heap.push o).objs.size = s1.heap.objs.size + 1 := Heap.size_push ..
  have rest : ∀ (code : Value) (h3 : Heap) (tk : Nat) (qs : Array Value), Heap.ExtBut P (s1.heap.push o) h3 → (s1.heap.push o).objs.size ≤ h3.objs.size →
      h3.get? P = some { cls := .none, data := .fields qs } → (∃ more, qs = ps ++ more) → TriplesOk qs.toList →
      wpAny (model X.prog X.w) X.A (builtinsFor X.env.globals X.env.builtins) (fun bi s₄ =>
        ∃ Ia fp wr n₀ Pf St₀ pz F, Value.ref s1.heap.objs.size = .ref Ia ∧ (∀ A' : Around, A'.handled = none → Walks X.prog X.w A' Ia fp wr n₀ Pf St₀) ∧
          St₀ 0 s₄.heap ∧ (∀ b ∈ fp, b < s₄.heap.objs.size) ∧ s₄.heap.NoLimit ∧ cStatics ∉ wr ∧
          (∀ href : Heap, (∀ b o, s₄.heap.get? b = some o → href.get? b = some o) →
            QuietGenD X.prog X.w (genEnv scope (cloFrom X.env.cells scope.names []) s₄.heap.objs.size code bi X.env) x [] elt
              (List.range s₄.heap.objs.size) wr Pf pz F href (X.A.depth + 1) (X.A.units + 8)) ∧
          (∀ a h₅ tk gs, gs.bare = true → s₄.heap.objs.size < a → h₅.objs.size = a + 1 → (∀ b o, s₄.heap.get? b = some o → h₅.get? b = some o) →
            WalksS X.prog X.w X.A.in4 a (a :: s₄.heap.objs.size :: List.range s₄.heap.objs.size) (s₄.heap.objs.size :: wr) (GenOnlyQ s₄.gens.size)
              (passing pz n₀ 0).length (fun j y => ∃ i, (passing pz n₀ 0)[j]? = some i ∧ F i y)
              (GenAt X.prog X.w X.A.in4 a s₄.gens.size s₄.heap.objs.size (List.range s₄.heap.objs.size) wr pz n₀ F) →
            GenAt X.prog X.w X.A.in4 a s₄.gens.size s₄.heap.objs.size (List.range s₄.heap.objs.size) wr pz n₀ F 0 { s₄ with gens := s₄.gens.push gs, toks := tk, heap := h₅ } →
            Q' (.ref a) { s₄ with gens := s₄.gens.push gs, toks := tk, heap := h₅ })) X.xe { s1 with heap := h3, toks := tk } := by
    intro code h3 tk qs hx hsz hP3 hmore ht3
    obtain ⟨bm, ob, e1, e2, e3, e4, e5, e6, e7, e8⟩ := TB.bm
    have hcl : cStatics < s1.heap.objs.size := let ⟨_, hns, _⟩ := I1.nolimit; hns.lt
    have hcP : cStatics ≠ P := fun e => by
      obtain ⟨_, ⟨o', es, ep, ho, hd, _⟩, _⟩ := I1.nolimit
      rw [e, hP1] at ho
      cases ho
      cases hd
    have k3 : ∀ b u, b ≠ P → s1.heap.get? b = some u → h3.get? b = some u := fun b u hb e => hx b u hb (up b u e)
    have kbase : ∀ b u, X.base.get? b = some u → h3.get? b = some u := fun b u e => k3 b u (fun z => by
      have q := (I1.bs b u e).2
      rw [z, hP] at q
      cases q) (I1.bk b u e)
    refine wpAny_builtinsFor (m := X.mg) (by rw [I1.ok.glob]; exact ((I1.mod.glob.keeps I1.bk).push o).extBut hx TB.gP) e1 e2 (k3 _ _ e4 (I1.bk _ _ e5)) e6 e7 e8 ?_
    refine ⟨s1.heap.objs.size, [s1.heap.objs.size], [s1.heap.objs.size], a.cps.size, SignAt a, St, (fun _ => true), (fun i y => ∃ cc, a.cps[i]? = some cc ∧ y = .bool (pb cc)), rfl, W, ?_, ?_, nl2.extBut hx hcP, ?_, ?_, ?_⟩
    · refine (W X.A hr.hd).frame _ _ _ hst fun b hb u e => hx b u (fun z => ?_) e
      obtain rfl : b = s1.heap.objs.size := by simpa using hb
      exact Nat.ne_of_lt ltP z.symm
    · intro b hb
      obtain rfl : b = s1.heap.objs.size := by simpa using hb
      show s1.heap.objs.size < h3.objs.size
      omega
    · intro z
      obtain z : cStatics = s1.heap.objs.size := by simpa using z
      exact Nat.ne_of_lt hcl z
    · intro href hhref
      refine ⟨fun A' E' i v s₂ m₂ hA hD hU hPv hn hm hk => ?_, fun A' E' i v s₂ m₂ hA hD hU hPv hp hn hm hk => ?_⟩
      · simp only [List.forIn_nil]
        exact wpAny_pure ⟨rfl, GxR.keeps_refl _⟩
      · obtain ⟨cc, u, hcc, rfl⟩ := hPv
        have kb : ∀ b o, X.base.get? b = some o → s₂.heap.get? b = some o := fun b o e =>
          hk b (List.mem_range.mpr (Heap.lt_size (kbase b o e))) (fun z => by
            obtain z : b = s1.heap.objs.size := by simpa using z
            exact Nat.ne_of_lt (Heap.lt_size (I1.bk b o e)) z) o (hhref b o (kbase b o e))
        exact wpAny_mono (hel I1.ok.mod _ A' E' cc u s₂ m₂ rfl rfl hA hD hU kb hn hm) (fun y s3 r => ⟨⟨cc, hcc, r.1⟩, r.2⟩) fun _ _ e => e
    · intro g h5 tk5 gs hgb hag hsz5 hk5 W5 hat
      simp only [GxR.passing_true, List.length_range] at W5
      refine hQ a H1 g _ q1 ⟨_, _, _, _, _, W5.in4_1, hat, fun j y sj Qj Ej hy hQj => ?_, fun s' hm => ?_⟩
      · obtain ⟨i, hij, cc, hcc, rfl⟩ := hy
        obtain ⟨hj, ej⟩ := List.getElem?_eq_some_iff.mp hij
        rw [List.getElem_range] at ej
        subst ej
        have e9 : a.cps.toList[j]? = some cc := by
          rw [Array.getElem?_toList]
          exact hcc
        have q2 : Qj (GxR.trF pb a.cps.toList j) sj := hQj
        rw [GxR.trF_some e9] at q2
        exact wpAny_truthy_bool q2
      · obtain ⟨more, em⟩ := hmore
        have nwr : ∀ b u, s1.heap.get? b = some u → b ∉ h3.objs.size :: [s1.heap.objs.size] := fun b u e hb => by
          have hl := Heap.lt_size e
          rcases List.mem_cons.mp hb with z | z
          · rw [z] at hl
            have h9 : (h3.objs.size : Nat) < s1.heap.objs.size := hl
            omega
          · obtain z : b = s1.heap.objs.size := by simpa using z
            exact Nat.ne_of_lt hl z
        have J := GxR.inv_tab (more := more) (h' := s'.heap) (g' := s'.gens) (d' := s'.drawn) (t' := s'.toks) I1 hP (fun b u hb e => hm.heap b u (nwr b u e) (hk5 b u (k3 b u hb e)))
          (by rw [← em]; exact hm.heap P _ (nwr P _ hP1) (hk5 P _ hP3)) (AllBare.movedS (I1.bare.push hgb) hm)
        rw [GxR.sh_eta s1 s' hm.os] at J
        exact ⟨upd H1 P (.tbl (ps ++ more)), ⟨⟨ps ++ more, upd_same, by rw [← em]; exact ht3⟩, fun b hb => upd_ne hb⟩, J⟩
  refine ⟨nl2, ?_⟩
  have hP2 := up P _ hP1
  cases hf : codeAmong gpos ps.toList with
  | none =>
    refine wpAny_genexprCodeX hcode (cd.code hP2 ht) (cd.tab hP2) hf fun c' h' tk hx hge hlt hco' _ htab' _ => ?_
    obtain ⟨o1, vs, f1, tf, fl, tg, inF, tx, tt, op, _, _, _, _, _, _, _, _, _, htr, _⟩ := hco'
    exact rest _ h' tk _ hx (Nat.le_trans hge (Nat.le_of_lt hlt)) htab'.2 ⟨_, rfl⟩ htr
  | some cv =>
    refine wpAny_genexprCode_hit hcode (cd.code hP2 ht) hf ?_
    exact rest cv (s1.heap.push o) s1.toks ps (Heap.ExtBut.refl _ _) (Nat.le_refl _) hP2 ⟨#[], by simp⟩ ht

/-- all(test for x in e) -/
theorem pe_allD {c P : Addr} {elt iter : Expr} {x : Str} {px p pos gpos : Pos} {scope : Scope} {pb : Nat → Bool} {te : TE} {k : Nat}
    (hr : Room k X.A) (hg : Gl X "all") (hm : X.mg "all" = none) (TB : GxR.TabB X.base X.mg c P) (hcode : X.env.code = .ref c) (S : GxR.GenS X.env scope x)
    (hi : PE X iter te) (hel : L2.Mod X.K X.mg X.base → EltD X scope x elt pb) (hs : ∀ v, genFold iter X.env v = pure v)
    (he : starEach [.GeneratorExp elt [⟨.Name x px, iter, [], 0⟩] scope gpos] X.env = (false, eval (.GeneratorExp elt [⟨.Name x px, iter, [], 0⟩] scope gpos) X.env) :: starEach [] X.env := by rfl) :
    PE X (.Call (.Name "all" p) [.GeneratorExp elt [⟨.Name x px, iter, [], 0⟩] scope gpos] [] pos) (GxR.tAllS P pb te) := by
  refine ⟨fun pins s σ H Q I h => wpAny_Call_Name_kw (ld_blt I hg hm (by decide +kernel : bootBuiltins "all" = some (.builtin "all")) ?_)⟩
  refine PyProof.Rows.callWith_builtin1 ?_ he (by rfl)
  rw [he]
  show wpAny _ _ (spliced ((false, _) :: backTo pos (starEach [] X.env))) _ _ s
  refine Calls.spliced_cons (gen_signs (R := fun a H1 => ∀ H2, GxR.Tabbed P H1 H2 → Q (.bl (a.cps.toList.all pb)) H2) hr TB hcode S hi hel hs I h fun a H1 g s5 hR hG => ?_)
  obtain ⟨fp, wr, G, F, St, W, hst, htr, hI⟩ := hG
  refine Calls.spliced_nil (call_all_walkS (W.self 0 _ _ _ hst ⟨g, fp, wr, G, _, F, St, _, rfl, W, hst, htr, fun s' hmv => ?_⟩))
  obtain ⟨H2, hT, J⟩ := hI s' hmv
  refine ⟨.bl _, H2, J, rfl, ?_⟩
  rw [GxR.all_signs a pb]
  exact hR H2 hT

/-- an element that calls nothing: x in N, N a text of the module -/
theorem elt_inSigns {scope : Scope} {x n : Str} {z : Str} {tz : Tok} {p1 p2 p3 : Pos} (hgl : X.env.globals = mainGlobals) (hmod : L2.Mod X.K X.mg X.base) (hk : scope.kind = .function)
    (hl : scope.names.lookup x = some .local) (hn : scope.names.lookup n = some .globalImplicit) (hm : X.mg n = some (.str z tz))
    (hd : (x == ("__debug__" : Str)) = false := by decide) (hd2 : (n == ("__debug__" : Str)) = false := by decide) :
    EltD X scope x (.Compare (.Name x p1) [.In] [.Name n p2] p3) (fun c => decide (c ∈ z.cps.toList)) := by
  intro cenv A' E' c t s₂ m₂ hs hg hA hD hU hb hns hx
  refine wpAny_Compare1 ?_
  refine wpAny_Name (wpAny_loadName_local (by rw [hs]; exact hk) (show cenv.scope.names.lookup x = some .local by rw [hs]; exact hl) hns hx ?_) hd
  refine Calls.Name_function_global (by rw [hs]; exact hk) (show cenv.scope.names.lookup n = some .globalImplicit by rw [hs]; exact hn) (Calls.loadGlobal_global (by rw [hg, hgl]; exact hmod.glob.keeps hb) hm ?_) hd2
  refine in_str ⟨?_, GxR.keeps_refl _⟩
  rw [PySem.StrLaws.found_one z c]
end
end GD

set_option maxRecDepth 100000
set_option maxHeartbeats 4000000
namespace K1
open PySem PySem.Spec PyProof.Rows L2 GD
/-! ### the text -/
def topS (i : Nat) : Stmt := PySem.Challenge.pw_sameasnew_k02_expressions_read_and_writt.main.body.getD i (.Pass ⟨0, 0, 0, 0⟩)
abbrev sIsName : Stmt := topS 11
abbrev sIsValue : Stmt := topS 12
abbrev sSplit : Stmt := topS 13
abbrev sTokenAt : Stmt := topS 14
abbrev sWordAt : Stmt := topS 15
abbrev sNumberAt : Stmt := topS 16
abbrev sStringAt : Stmt := topS 17
abbrev sEndOfRun : Stmt := topS 18
abbrev sCell : Stmt := topS 39
abbrev sDigits : Stmt := topS 40
abbrev sDraw : Stmt := topS 41
abbrev sAlike : Stmt := topS 50

/-- the signs of the package -/
def CHS : Str := " !\"#$&'()*+,-./0123456789:;<=>?@ABCDEFGHIJKLMNOPQRSTUVWXYZ[\\]^_`abcdefghijklmnopqrstuvwxyz{|}~"
def isCh (c : Nat) : Bool := decide (32 ≤ c ∧ c ≤ 126 ∧ c ≠ 37)
theorem chs_le : ∀ x ∈ CHS.cps.toList, x ≤ 126 := by decide +kernel
theorem chs_tab : ∀ c ∈ List.range 127, decide (c ∈ CHS.cps.toList) = isCh c := by decide +kernel
theorem chs_eq (c : Nat) : decide (c ∈ CHS.cps.toList) = isCh c := by
  by_cases h : c < 127
  · exact chs_tab c (List.mem_range.mpr h)
  · rw [decide_eq_false fun z => h (Nat.lt_succ_of_le (chs_le c z))]
    exact (decide_eq_false fun z => h (by omega)).symm
/-- a character that may stand in a string -/
def mayC (c : Nat) : Bool := decide (32 ≤ c ∧ c ≤ 126 ∧ c ≠ 37 ∧ c ≠ 34 ∧ c ≠ 124)
theorem mayC_eq (c : Nat) : mayC c = (isCh c && !(decide (c = 34) || decide (c = 124))) := by
  unfold mayC isCh
  rw [Bool.eq_iff_iff]
  simp only [Bool.and_eq_true, Bool.not_eq_true', Bool.or_eq_false_iff, decide_eq_true_eq, decide_eq_false_iff_not]
  constructor
  · intro h
    exact ⟨⟨h.1, h.2.1, h.2.2.1⟩, h.2.2.2.1, h.2.2.2.2⟩
  · intro h
    exact ⟨h.1.1, h.1.2.1, h.1.2.2, h.2.1, h.2.2⟩
/-- the element of is_value's generator -/
theorem elt_val {X : Cx} {scope : Scope} {tz : Tok} {j1 j2 j3 : Nat} {p0 p1 p2 p3 p4 p5 p6 p7 p8 : Pos} (hgl : X.env.globals = mainGlobals) (hmod : L2.Mod X.K X.mg X.base) (hk : scope.kind = .function)
    (hl : scope.names.lookup ("character" : Str) = some .local) (hn : scope.names.lookup ("CHARACTERS" : Str) = some .globalImplicit) (hm : X.mg "CHARACTERS" = some (.str CHS tz)) :
    EltD X scope "character" (.BoolOp .And [.Compare (.Name "character" p1) [.In] [.Name "CHARACTERS" p2] p3, .Compare (.Name "character" p4) [.NotIn] [.Tuple [.Constant (.str "\"") j1 p5, .Constant (.str "|") j2 p6] j3 p7] p8] p0) mayC := by
  intro cenv A' E' c t s₂ m₂ hs hg hA hD hU hb hns hx
  have k1 : cenv.scope.kind = .function := by rw [hs]; exact hk
  have l1 : cenv.scope.names.lookup ("character" : Str) = some .local := by rw [hs]; exact hl
  refine BoolOp_and (wpAny_Compare1 ?_)
  refine wpAny_Name (wpAny_loadName_local k1 l1 hns hx ?_) (by decide)
  refine Calls.Name_function_global k1 (show cenv.scope.names.lookup _ = some .globalImplicit by rw [hs]; exact hn) (Calls.loadGlobal_global (by rw [hg, hgl]; exact hmod.glob.keeps hb) hm ?_) (by decide)
  refine in_str ?_
  rw [PySem.StrLaws.found_one CHS c, chs_eq c]
  refine wpAny_truthy_bool ?_
  by_cases c1 : isCh c = true
  case neg =>
    have e1 : isCh c = false := by
      cases h : isCh c
      · rfl
      · exact absurd h c1
    rw [e1]
    refine ite_ff ⟨?_, GxR.keeps_refl _⟩
    rw [mayC_eq, e1, Bool.false_and]
  rw [c1]
  refine ite_tt (BoolOp_one (wpAny_Compare1 ?_))
  refine wpAny_Name (wpAny_loadName_local k1 l1 hns hx ?_) (by decide)
  refine wpAny_Tuple_spliced ?_
  show wpAny _ _ (spliced ((false, eval _ cenv) :: backTo _ (starEach [_] cenv))) _ _ _
  refine Calls.spliced_cons (Calls.Constant_str ?_)
  show wpAny _ _ (spliced ((false, eval _ cenv) :: backTo _ (starEach [] cenv))) _ _ _
  refine Calls.spliced_cons (Calls.Constant_str ?_)
  refine Calls.spliced_nil ⟨by show 2 ≤ sizeLine; decide, ?_⟩
  refine SeqAt.notIn_tupleAt (eqU (.str ⟨#[c]⟩)) ⟨_, Heap.get?_push_size _ rfl, rfl, _, rfl⟩ (fun y hy => ?_) ?_
  · have z := List.mem_toArray.mp hy
    rcases List.mem_cons.mp z with rfl | z
    · exact SeqAt.EqAt.str_str _ _ _ _
    · rcases List.mem_cons.mp z with rfl | z
      · exact SeqAt.EqAt.str_str _ _ _ _
      · cases z
  · have q1 : ∀ d : Nat, eqV (.str ⟨#[d]⟩) (.str ⟨#[c]⟩) = decide (c = d) := fun d => by
      show ((⟨#[d]⟩ : Str) == (⟨#[c]⟩ : Str)) = _
      by_cases h : c = d
      · subst h
        rw [decide_eq_true rfl]
        exact beq_self_eq_true _
      · rw [decide_eq_false h]
        refine beq_eq_false_iff_ne.mpr fun z => h ?_
        have z1 : #[d] = #[c] := congrArg Str.cps z
        have z2 : [d] = [c] := congrArg Array.toList z1
        exact (List.cons.inj z2).1.symm
    refine ⟨congrArg Value.bool ?_, ⟨_, _, rfl, fun b o e => Heap.get?_push_of_some _ e⟩⟩
    show (!([Value.str (Str.ofString "\"") _, Value.str (Str.ofString "|") _].toArray.any (eqU (.str ⟨#[c]⟩)))) = mayC c
    rw [show ∀ l : List Value, l.toArray.any (eqU (.str ⟨#[c]⟩)) = l.any (eqU (.str ⟨#[c]⟩)) from fun l => by simp]
    rw [List.any_cons, List.any_cons, List.any_nil, Bool.or_false]
    show (!(eqV (.str ⟨#[34]⟩) (.str ⟨#[c]⟩) || eqV (.str ⟨#[124]⟩) (.str ⟨#[c]⟩))) = mayC c
    rw [q1, q1, mayC_eq, c1, Bool.true_and]
end K1

set_option maxRecDepth 100000
set_option maxHeartbeats 4000000
namespace K1
open PySem PySem.Spec PyProof.Rows L2 GD

def kw13 : List Str := ["import", "export", "let", "keep", "fn", "do", "hold", "if", "then", "else", "set", "from", "as"]
/-- what the top has written, but for the defs -/
structure Txt (K : PySem.W.Frag) (mg : Str → Option Value) : Prop where
  len : mg "len" = none
  range : mg "range" = none
  bint : mg "int" = none
  bstr : mg "str" = none
  bbool : mg "bool" = none
  blist : mg "list" = none
  repr : mg "repr" = none
  isinstance : mg "isinstance" = none
  ord : mg "ord" = none
  all : mg "all" = none
  NAME_MOST : ∃ t, mg "NAME_MOST" = some (.int 6 t)
  NUMBER_MOST : ∃ t, mg "NUMBER_MOST" = some (.int 99999 t)
  STRING_MOST : ∃ t, mg "STRING_MOST" = some (.int 20 t)
  CHARACTERS : ∃ t, mg "CHARACTERS" = some (.str CHS t)
  LETTERS : ∃ t, mg "LETTERS" = some (.str "abcdefghijklmnopqrstuvwxyz" t)
  DIGITS : ∃ t, mg "DIGITS" = some (.str "0123456789" t)
  SIGNS : ∃ t, mg "SIGNS" = some (.str "(),;+-*<=" t)
  RESERVED : ∃ a, mg "RESERVED" = some (.ref a) ∧ ∀ H, SqT K H a (kw13.map V.str)

/-! ### the law's helpers -/
/-- the box of a law: a list of the list of digits and the place -/
def Box (H : Hp) (b d : Addr) (ds : List Int) (at_ : Nat) : Prop :=
  H b = some (.lst [.ref d, .int at_]) ∧ H d = some (.lst (ds.map V.int)) ∧ ds.length ≤ 4000
theorem Box.ne {H : Hp} {b d : Addr} {ds : List Int} {at_ : Nat} (h : Box H b d ds at_) : d ≠ b := fun e => by
  obtain ⟨h1, h2, _⟩ := h
  rw [e, h1] at h2
  have q : [V.ref d, V.int at_] = ds.map V.int := by
    have := Option.some.inj h2
    injection this
  cases ds with
  | nil => cases q
  | cons x r => cases q

section
variable {P : Program} {w : World} {K : PySem.W.Frag} {mg : Str → Option Value} {base : Heap}

def spCell (K : PySem.W.Frag) : Sp := fun vs H Q _ => ∃ (a : Addr) (ns : List Int) (k : Nat), vs = [.ref a, .int k] ∧ SqL K H a (ns.map V.int) ∧ ∀ v : Int, Q (.int v) H
theorem scCell : FnScope ["script", "k"] ["script", "k"] (defScope sCell) := ⟨rfl, rfl, rfl, by decide +kernel, rfl, by decide +kernel, by decide +kernel⟩
theorem ok_cell {f : Addr} {fd : FuncData} (F : Fun K "_law_cell" "_law_cell" sCell f fd) (T : Txt K mg) : FnOk P w K mg base CX0 1 f fd ["script", "k"] (spCell K) := by
  have sc := scCell
  refine F.ok sc (fun vs H Q E h => ?_) (fun cdv A outer s H vs Q E hr h => ?_)
  · obtain ⟨a, ns, k, rfl, _⟩ := h
    rfl
  · obtain ⟨a, ns, k, rfl, hS, q⟩ := h
    refine ⟨_, (pss_cons (ps_if (pt_cmpR op_lt (pv 1) (pe_callB call_len_seq (by rfl) T.len (by decide +kernel) (pa_cons (pv 0) pa_nil)) (nomark _))
      (pss_one (ps_ret (pe_ix ix_list (pv 0) (pv 1) (fun _ _ => rfl)))) pss_nil)
      (pss_one (ps_ret pe_int))), ?_⟩
    refine ⟨_, rfl, _, rfl, a, _, rfl, .inl hS, _, _, rfl, rfl, _, rfl, ite2 (fun e => ?_) (fun e => ?_)⟩
    · have hk : k < ns.length := by
        have := of_decide_eq_true e
        rw [List.length_map] at this
        omega
      exact ⟨_, rfl, _, rfl, a, _, _, .int ns[k], rfl, rfl, hS, atI_nat (by rw [List.getElem?_map, List.getElem?_eq_getElem hk]; rfl), q _⟩
    · exact q 0

def spDraw : Sp := fun vs H Q _ => ∃ (b d : Addr) (ds : List Int) (at_ : Nat) (m : Int), vs = [.ref b, .int m] ∧ Box H b d ds at_ ∧ 0 < m ∧
  ∀ r : Int, 0 ≤ r → r < m → Q (.int r) (upd H b (.lst [.ref d, .int ((at_ + 1 : Nat) : Int)]))
theorem scDraw : FnScope ["box", "many", "at"] ["box", "many"] (defScope sDraw) := ⟨rfl, rfl, rfl, by decide +kernel, rfl, by decide +kernel, by decide +kernel⟩
theorem ok_draw {f : Addr} {fd : FuncData} (F : Fun K "_law_draw" "_law_draw" sDraw f fd) (T : Txt K mg) : FnOk P w K mg base CX0 1 f fd ["box", "many"] spDraw := by
  have sc := scDraw
  refine F.ok sc (fun vs H Q E h => ?_) (fun cdv A outer s H vs Q E hr h => ?_)
  · obtain ⟨b, d, ds, at_, m, rfl, _⟩ := h
    rfl
  · obtain ⟨b, d, ds, at_, m, rfl, hB, hm, q⟩ := h
    refine ⟨_, (pss_cons (ps_set (i := 2) sc.nd rfl (.inl rfl) (pe_ix ix_list (pv 0) pe_int (fun _ _ => rfl)))
      (pss_cons (ps_asg (pe_op op_add (pv 2) pe_int) (pg_sub (pv 0) pe_int set_list))
      (pss_cons (ps_if (pt_cmpR op_lt (pv 2) (pe_callB call_len_seq (by rfl) T.len (by decide +kernel) (pa_cons (pe_ix ix_list (pv 0) pe_int (fun _ _ => rfl)) pa_nil)) (nomark _))
      (pss_one (ps_ret (pe_op op_mod (pe_callTy call_int1 (by rfl) T.bint (by decide +kernel) (pa_cons (pe_ix ix_list (pe_ix ix_list (pv 0) pe_int (fun _ _ => rfl)) (pv 2) (fun _ _ => rfl)) pa_nil)) (pv 1)))) pss_nil)
      (pss_one (ps_ret (pe_op op_mod (pe_callTy call_int1 (by rfl) T.bint (by decide +kernel) (pa_cons (pe_op op_add (pe_op op_mul (pv 2) pe_int) pe_int) pa_nil)) (pv 1))))))), ?_⟩
    obtain ⟨h1, h2, h3⟩ := hB
    have nd : d ≠ b := Box.ne ⟨h1, h2, h3⟩
    refine ⟨_, rfl, b, _, 1, .int at_, rfl, rfl, SqL.of h1, atI_nat (j := 1) rfl, ?_⟩
    refine ⟨_, rfl, _, _, rfl, rfl, _, rfl, b, _, 1, 1, rfl, rfl, h1, rfl, ?_⟩
    have e1 : upd H b (.lst ([V.ref d, V.int at_].set 1 (.int ((at_ : Int) + 1)))) b = some (.lst [.ref d, .int ((at_ + 1 : Nat) : Int)]) := upd_same
    have e2 : upd H b (.lst ([V.ref d, V.int at_].set 1 (.int ((at_ : Int) + 1)))) d = some (.lst (ds.map V.int)) := by rw [upd_ne nd]; exact h2
    refine ⟨_, rfl, _, rfl, b, _, 0, .ref d, rfl, rfl, SqL.of e1, atI_nat (j := 0) rfl, d, _, rfl, .inl (SqL.of e2), _, _, rfl, rfl, _, rfl, ite2 (fun e => ?_) (fun e => ?_)⟩
    · have hk : at_ < ds.length := by
        have := of_decide_eq_true e
        rw [List.length_map] at this
        omega
      refine ⟨_, rfl, b, _, 0, .ref d, rfl, rfl, SqL.of e1, atI_nat (j := 0) rfl, _, rfl, d, _, _, .int ds[at_], rfl, rfl, SqL.of e2, atI_nat (by rw [List.getElem?_map, List.getElem?_eq_getElem hk]; rfl), .inl ⟨_, rfl, ?_⟩⟩
      exact ⟨_, rfl, _, _, rfl, rfl, hm, q _ (Int.emod_nonneg _ (by omega)) (Int.emod_lt_of_pos _ hm)⟩
    · refine ⟨_, rfl, _, _, rfl, rfl, .inr (by decide), _, _, rfl, rfl, .inl ⟨_, rfl, ?_⟩⟩
      exact ⟨_, rfl, _, _, rfl, rfl, hm, q _ (Int.emod_nonneg _ (by omega)) (Int.emod_lt_of_pos _ hm)⟩

def spAlike (K : PySem.W.Frag) : Sp := fun vs H Q _ => ∃ (x y : V) (d : PyData), vs = [x, y] ∧ Dp K H x d ∧ Dp K H y d ∧ d ≠ .none ∧ d.showable = true ∧ d.hasDict = false ∧ d.depth ≤ 60 ∧ d.shown.length ≤ sizeLine ∧ Q (.bl true) H
theorem scAlike : FnScope ["one", "two"] ["one", "two"] (defScope sAlike) := ⟨rfl, rfl, rfl, by decide +kernel, rfl, by decide +kernel, by decide +kernel⟩
theorem ok_alike {f : Addr} {fd : FuncData} (F : Fun K "_law_alike" "_law_alike" sAlike f fd) (T : Txt K mg) : FnG P w K mg base CX0 1 f fd ["one", "two"] (spAlike K) := by
  have sc := scAlike
  refine okG F sc (fun vs H Q E h => ?_) (fun cdv A outer s H vs Q E hgd hr h => ?_)
  · obtain ⟨x, y, d, rfl, _⟩ := h
    rfl
  · obtain ⟨x, y, d, rfl, hx, hy, h1, h2, h3, h4, h5, q⟩ := h
    refine ⟨_, (pss_one (ps_ret (pe_cmpR op_eq (pe_callB (cr_repr hgd hr.units) (by rfl) T.repr (by decide +kernel) (pa_cons (pv 0) pa_nil)) (pe_callB (cr_repr hgd hr.units) (by rfl) T.repr (by decide +kernel) (pa_cons (pv 1) pa_nil)) (nomark _)))), ?_⟩
    refine ⟨_, rfl, x, d, rfl, hx, h1, h2, h3, h4, h5, _, rfl, y, d, rfl, hy, h1, h2, h3, h4, h5, rfl, ?_⟩
    rw [decide_eq_true rfl]
    exact q
end
end K1

set_option maxRecDepth 100000
set_option maxHeartbeats 4000000
namespace K1
open PySem PySem.Spec PyProof.Rows L2 GD
section
variable {P : Program} {w : World} {K : PySem.W.Frag} {mg : Str → Option Value} {base : Heap}

theorem snoc_ints (ds : List Int) (x : Int) : ds.map V.int ++ [V.int x] = (ds ++ [x]).map V.int := by rw [List.map_append]; rfl
theorem Same.lst {H H1 : Hp} {D : Addr} {o : HO} (s : Same H H1) (n : H D = none) : Same H (upd H1 D o) := fun b u e => by
  rw [upd_ne (ne_of_none e n)]
  exact s b u e

def spDigits (K : PySem.W.Frag) : Sp := fun vs H Q _ => ∃ (a : Addr) (ns : List Int), vs = [.ref a, .int 0, .int 63] ∧ SqL K H a (ns.map V.int) ∧
  ∀ (H' : Hp) (D : Addr) (ds : List Int), Same H H' → H D = none → H' D = some (.lst (ds.map V.int)) → ds.length ≤ 4000 → Q (.ref D) H'
theorem scDigits : FnScope ["script", "first", "last", "digits", "k", "cell", "turn", "seed"] ["script", "first", "last"] (defScope sDigits) := ⟨rfl, rfl, rfl, by decide +kernel, rfl, by decide +kernel, by decide +kernel⟩
theorem ok_digits {f fc : Addr} {fd fdc : FuncData} (F : Fun K "_law_digits" "_law_digits" sDigits f fd) (T : Txt K mg) (FC : FnOk P w K mg base CX0 1 fc fdc ["script", "k"] (spCell K))
    (mc : mg "_law_cell" = some (.ref fc)) (kc : PySem.W.keepIn K (.ref fc) = true) (bc : Binds K fdc ["script", "k"] []) : FnOk P w K mg base CX0 2 f fd ["script", "first", "last"] (spDigits K) := by
  have sc := scDigits
  refine F.ok sc (fun vs H Q E h => ?_) (fun cdv A outer s H vs Q E hr h => ?_)
  · obtain ⟨a, ns, rfl, _⟩ := h
    rfl
  · obtain ⟨a, ns, rfl, hS, q⟩ := h
    refine ⟨_, (pss_cons (ps_set (i := 3) sc.nd rfl (.inl rfl) (pe_lst pa_nil))
(pss_cons (ps_for PassesOwn.never rfl (pi_range2 rfl T.range (pa_cons (pv 1) (pa_cons (pv 2) pa_nil))) (pg_name (i := 4) sc.nd rfl (.inl rfl))
(pss_cons (ps_set (i := 5) sc.nd rfl (.inl rfl) (pe_call FC hr (by rfl) mc kc bc .nil pass0 (pa_cons (pv 0) (pa_cons (pv 4) pa_nil))))
(C8.pss_cut (ps_if (pt_cmpR op_lt (pv 5) pe_int (nomark _))
(pss_one (ps_set (i := 5) sc.nd rfl (.inl rfl) (pe_op op_sub pe_int (pe_op op_mul pe_int (pv 5))))) pss_nil)
(pss_one (ps_if (pt_cmpR op_ge (pv 5) pe_int (nomark _))
(pss_one (ps_for PassesOwn.never rfl (pi_range1 rfl T.range (pa_cons pe_int pa_nil)) (pg_name (i := 6) sc.nd rfl (.inl rfl))
(pss_one (ps_if (pt_cmpR op_gt (pv 5) pe_int (nomark _))
(pss_cons (ps_expr (pe_bm PySem.F.plainAttrs_list PySem.F.slot_list_append PySem.F.type_list_append mt_append (pv 3) (pa_cons (pe_op op_mod (pe_callTy call_int1 (by rfl) T.bint (by decide +kernel) (pa_cons (pv 5) pa_nil)) pe_int) pa_nil)))
(pss_one (ps_set (i := 5) sc.nd rfl (.inl rfl) (pe_op op_fdiv (pv 5) pe_int)))) pss_nil)))) (pss_cons (ps_set (i := 7) sc.nd rfl (.inl rfl) (pe_op op_mod (pe_callTy call_int1 (by rfl) T.bint (by decide +kernel) (pa_cons (pe_op op_add (pe_op op_add (pe_op op_mul (pv 5) pe_int) (pe_op op_mul (pv 4) pe_int)) pe_int) pa_nil)) pe_int))
(pss_one (ps_for PassesOwn.never rfl (pi_range1 rfl T.range (pa_cons pe_int pa_nil)) (pg_name (i := 6) sc.nd rfl (.inl rfl))
(pss_cons (ps_set (i := 7) sc.nd rfl (.inl rfl) (pe_op op_mod (pe_callTy call_int1 (by rfl) T.bint (by decide +kernel) (pa_cons (pe_op op_add (pe_op op_add (pe_op op_mul (pv 7) pe_int) (pe_op op_mul pe_int (pv 6))) pe_int) pa_nil)) pe_int))
(pss_one (ps_expr (pe_bm PySem.F.plainAttrs_list PySem.F.slot_list_append PySem.F.type_list_append mt_append (pv 3) (pa_cons (pe_op op_mod (pe_callTy call_int1 (by rfl) T.bint (by decide +kernel) (pa_cons (pe_op op_fdiv (pv 7) pe_int) pa_nil)) pe_int) pa_nil)))))))))))))
(pss_one (ps_ret (pv 3))))), ?_⟩
    refine ⟨Nat.zero_le _, fun D hD => ?_⟩
    refine ⟨_, rfl, _, rfl, 0, 63, rfl, ⟨by decide, by decide, by decide, by decide⟩, for_range (lo := 0) (n := 63) (fun i σ H' => ∃ (ds : List Int) (y4 y5 y6 y7 : Option V), σ = [some (.ref a), some (.int 0), some (.int 63), some (.ref D), y4, y5, y6, y7] ∧ Same H H' ∧ H' D = some (.lst (ds.map V.int)) ∧ ds.length ≤ 60 * i)
      ⟨[], none, none, none, none, rfl, Same.lst (Same.refl H) hD, upd_same, Nat.zero_le _⟩ ?_ ?_⟩
    · rintro i σ H1 hi ⟨ds, y4, y5, y6, y7, rfl, s1, e1, l1⟩
      refine ⟨_, rfl, _, rfl, a, ns, i, by rw [Int.zero_add]; rfl, s1.seq hS, fun c => ?_⟩
      refine ⟨fun σ' H' => ∃ c : Int, σ' = [some (.ref a), some (.int 0), some (.int 63), some (.ref D), some (.int (0 + (i : Nat))), some (.int c), y6, y7] ∧ H' = H1, ⟨_, rfl, _, _, rfl, rfl, _, rfl, ite2 (fun _ => ?_) (fun _ => ?_)⟩, ?_⟩
      · exact ⟨_, rfl, _, _, rfl, rfl, .inl (by decide), _, _, rfl, rfl, _, rfl, rfl⟩
      · exact ⟨_, rfl, rfl⟩
      · rintro σ' H' ⟨c, rfl, rfl⟩
        have big : ∀ {n : Nat}, n ≤ 5000 → n < sizeLine := fun h => Nat.lt_of_le_of_lt h (by decide)
        refine ⟨_, rfl, _, _, rfl, rfl, _, rfl, ite2 (fun _ => ?_) (fun _ => ?_)⟩
        · refine ⟨_, rfl, by decide, by decide, for_range (lo := 0) (n := 60) (fun j σ H' => ∃ (ds2 : List Int) (c2 : Int) (y6 : Option V), σ = [some (.ref a), some (.int 0), some (.int 63), some (.ref D), some (.int (0 + (i : Nat))), some (.int c2), y6, y7] ∧ Same H H' ∧ H' D = some (.lst (ds2.map V.int)) ∧ ds2.length ≤ 60 * i + j)
            ⟨ds, c, y6, rfl, s1, e1, l1⟩ ?_ ?_⟩
          · rintro j σ H2 hj ⟨ds2, c2, y6, rfl, s2, e2, l2⟩
            refine ⟨_, rfl, _, _, rfl, rfl, _, rfl, ite2 (fun _ => ?_) (fun _ => ?_)⟩
            · refine ⟨_, rfl, .inl ⟨rfl, _, SqL.of e2⟩, _, rfl, .inl ⟨_, rfl, _, _, rfl, rfl, (by show (0 : Int) < 1000; decide), D, _, _, rfl, rfl, e2, ?_, ?_⟩⟩
              · rw [List.length_map]
                exact big (by omega)
              · refine ⟨_, rfl, _, _, rfl, rfl, ⟨by decide, by decide⟩, ds2 ++ [c2 % 1000], _, _, rfl, Same.lst s2 hD, ?_, ?_⟩
                · rw [upd_same, snoc_ints]
                · rw [List.length_append, List.length_singleton]
                  omega
            · exact ⟨ds2, c2, _, rfl, s2, e2, by omega⟩
          · rintro σ H2 ⟨ds2, c2, y6, rfl, s2, e2, l2⟩
            exact ⟨ds2, _, _, _, _, rfl, s2, e2, by omega⟩
        · refine ⟨_, rfl, _, _, rfl, rfl, .inr (by decide), _, rfl, _, _, rfl, rfl, .inr (by decide), _, _, rfl, rfl, _, _, rfl, rfl, .inl ⟨_, rfl, _, _, rfl, rfl, (by show (0 : Int) < 2147483399; decide), ?_⟩⟩
          refine ⟨_, rfl, by decide, by decide, for_range (lo := 0) (n := 12) (fun j σ H' => ∃ (ds2 : List Int) (c2 : Int) (y6 : Option V), σ = [some (.ref a), some (.int 0), some (.int 63), some (.ref D), some (.int (0 + (i : Nat))), some (.int c), y6, some (.int c2)] ∧ Same H H' ∧ H' D = some (.lst (ds2.map V.int)) ∧ ds2.length ≤ 60 * i + j)
            ⟨ds, _, y6, rfl, s1, e1, l1⟩ ?_ ?_⟩
          · rintro j σ H2 hj ⟨ds2, c2, y6, rfl, s2, e2, l2⟩
            refine ⟨_, rfl, _, _, rfl, rfl, .inr (by decide), _, rfl, _, _, rfl, rfl, .inl (by decide), _, _, rfl, rfl, _, _, rfl, rfl, .inl ⟨_, rfl, _, _, rfl, rfl, (by show (0 : Int) < 2147483563; decide), ?_⟩⟩
            refine ⟨_, rfl, .inl ⟨rfl, _, SqL.of e2⟩, _, rfl, _, _, rfl, rfl, ⟨by decide, by decide⟩, .inl ⟨_, rfl, _, _, rfl, rfl, (by show (0 : Int) < 1000; decide), D, _, _, rfl, rfl, e2, ?_, ?_⟩⟩
            · rw [List.length_map]
              exact big (by omega)
            · refine ⟨ds2 ++ [(c2 * 40014 + 5 * (0 + (j : Nat)) + 3) % 2147483563 / 1009 % 1000], _, _, rfl, Same.lst s2 hD, ?_, ?_⟩
              all_goals try dsimp only
              · rw [upd_same, snoc_ints]
              · rw [List.length_append, List.length_singleton]
                omega
          · rintro σ H2 ⟨ds2, c2, y6, rfl, s2, e2, l2⟩
            exact ⟨ds2, _, _, _, _, rfl, s2, e2, by omega⟩
    · rintro σ H1 ⟨ds, y4, y5, y6, y7, rfl, s1, e1, l1⟩
      exact ⟨_, rfl, q H1 D ds s1 hD e1 (by omega)⟩
end
end K1

set_option maxRecDepth 100000
set_option maxHeartbeats 4000000
/-! the mathematics of law k01: lists of codes, no Python -/
namespace K1
open PySem

def S (l : List Nat) : Str := ⟨l.toArray⟩
theorem S_toList (l : List Nat) : (S l).cps.toList = l := rfl
theorem S_len (l : List Nat) : (S l).length = l.length := by show l.toArray.size = _; simp
theorem S_of (z : Str) : S z.cps.toList = z := by cases z; rfl
theorem S_app (a b : List Nat) : S a ++ S b = S (a ++ b) := by
  show (⟨a.toArray ++ b.toArray⟩ : Str) = ⟨(a ++ b).toArray⟩
  rw [List.append_toArray]
theorem S_inj {a b : List Nat} (h : S a = S b) : a = b := congrArg (fun z : Str => z.cps.toList) h

/-! ### finding a sign -/
section
open Builtin Builtin.Str StrLaws
theorem occ_stop (s sub : Str) (hi : Nat) : ∀ (l : List Nat) (st : Array Nat × Nat), st.fst.size = 1 → (forIn l st (occBody s sub hi 1)).run.fst = st.fst
  | [], st, h => rfl
  | a :: l, st, h => by
    rw [List.forIn_cons]
    unfold occBody
    rw [if_neg (fun z => by have := z.1.1.1; omega)]
    exact occ_stop s sub hi l st h
theorem occ_first (x : Str) (c : Nat) : ∀ (m cur free : Nat), free ≤ cur →
    ((∀ k, cur ≤ k → k < cur + m → x.cps.toList[k]? ≠ some c) ∧ (forIn (List.range' cur m) ((#[] : Array Nat), free) (occBody x ⟨#[c]⟩ x.length 1)).run.fst = #[]) ∨
    ∃ k, cur ≤ k ∧ k < cur + m ∧ x.cps.toList[k]? = some c ∧ (∀ j, cur ≤ j → j < k → x.cps.toList[j]? ≠ some c) ∧ (forIn (List.range' cur m) ((#[] : Array Nat), free) (occBody x ⟨#[c]⟩ x.length 1)).run.fst = #[k]
  | 0, cur, free, h => .inl ⟨fun k h1 h2 => by omega, rfl⟩
  | m + 1, cur, free, h => by
    rw [List.range'_succ, List.forIn_cons]
    unfold occBody
    by_cases hc : x.cps.toList[cur]? = some c
    · have q := (subAt_one x c cur).mpr hc
      rw [if_pos ⟨⟨⟨by simp, h⟩, q.1⟩, q.2⟩]
      refine .inr ⟨cur, Nat.le_refl _, by omega, hc, fun j h1 h2 => by omega, ?_⟩
      exact occ_stop x _ _ _ _ rfl
    · rw [if_neg (fun z => hc ((subAt_one x c cur).mp ⟨z.1.2, z.2⟩))]
      rcases occ_first x c m (cur + 1) free (by omega) with ⟨h1, h2⟩ | ⟨k, h1, h2, h3, h4, h5⟩
      · refine .inl ⟨fun k k1 k2 => ?_, h2⟩
        by_cases e : k = cur
        · rw [e]; exact hc
        · exact h1 k (by omega) (by omega)
      · refine .inr ⟨k, by omega, by omega, h3, fun j j1 j2 => ?_, h5⟩
        by_cases e : j = cur
        · rw [e]; exact hc
        · exact h4 j (by omega) j2
/-- s.find(c, i): the first place from i on -/
theorem find_one (x : Str) (c i : Nat) (hi : i ≤ x.length) :
    (Txt.find3 x ⟨#[c]⟩ (i : Nat) = -1 ∧ c ∉ x.cps.toList.drop i) ∨
    ∃ k : Nat, Txt.find3 x ⟨#[c]⟩ (i : Nat) = ((i + k : Nat) : Int) ∧ (x.cps.toList.drop i)[k]? = some c ∧ c ∉ (x.cps.toList.drop i).take k := by
  have e : fromIndex x.length (i : Nat) = i := by
    show (max (0 : Int) (if ((i : Nat) : Int) < 0 then _ else ((i : Nat) : Int))).toNat = i
    rw [if_neg (by omega)]
    omega
  unfold Txt.find3
  rw [e, occ_eq]
  have xl : x.length = x.cps.toList.length := by show x.cps.size = _; simp
  rcases occ_first x c (x.length + 1 - i) i i (Nat.le_refl _) with ⟨h1, h2⟩ | ⟨k, h1, h2, h3, h4, h5⟩
  · left
    rw [h2]
    refine ⟨rfl, fun hm => ?_⟩
    obtain ⟨j, hj⟩ := List.getElem?_of_mem hm
    rw [List.getElem?_drop] at hj
    have := (List.getElem?_eq_some_iff.mp hj).1
    exact h1 (i + j) (by omega) (by omega) hj
  · right
    rw [h5]
    refine ⟨k - i, ?_, ?_, fun hm => ?_⟩
    · show ((k : Nat) : Int) = _
      omega
    · rw [List.getElem?_drop, show i + (k - i) = k by omega]
      exact h3
    · obtain ⟨j, hj⟩ := List.getElem?_of_mem hm
      have hlt : j < k - i := by
        have := (List.getElem?_eq_some_iff.mp hj).1
        rw [List.length_take] at this
        omega
      rw [List.getElem?_take_of_lt hlt, List.getElem?_drop] at hj
      exact h4 (i + j) (by omega) (by omega) hj
end

/-! ### tokens -/
def LET : List Nat := ("abcdefghijklmnopqrstuvwxyz" : Str).cps.toList
def DIG : List Nat := ("0123456789" : Str).cps.toList
def SGN : List Nat := ("(),;+-*<=" : Str).cps.toList
def mayB (c : Nat) : Bool := decide (32 ≤ c ∧ c ≤ 126 ∧ c ≠ 37 ∧ c ≠ 34 ∧ c ≠ 124)
/-- how many of cs stand at the beginning -/
def run (cs l : List Nat) : Nat := (l.takeWhile fun c => decide (c ∈ cs)).length
def val (ds : List Nat) : Nat := ds.foldl (fun acc c => acc * 10 + (c - 48)) 0
inductive Tok where
  | word (l : List Nat) | num (n : Nat) | str (l : List Nat) | sign (c : Nat)
/-- the text of a number -/
def numT (n : Nat) : List Nat := (Str.ofString (toString (n : Int))).cps.toList
/-- how far the next quote is -/
def toQ (r : List Nat) : Nat := (r.takeWhile fun d => d != 34).length
/-- the token at the beginning, and how many signs it has -/
def lexC (c : Nat) (r : List Nat) : Option (Tok × Nat) :=
    if c ∈ LET then (if run LET (c :: r) ≤ 6 then some (.word ((c :: r).take (run LET (c :: r))), run LET (c :: r)) else none)
    else if c ∈ DIG then
      (if run DIG (c :: r) ≤ 5 ∧ (c :: r).take (run DIG (c :: r)) = numT (val ((c :: r).take (run DIG (c :: r)))) then
        some (.num (val ((c :: r).take (run DIG (c :: r)))), run DIG (c :: r)) else none)
    else if c = 34 then
      (if toQ r < r.length ∧ toQ r ≤ 20 ∧ (r.take (toQ r)).all mayB = true then some (.str (r.take (toQ r)), toQ r + 2) else none)
    else if c ∈ SGN then some (.sign c, 1) else none
/-- how a line is split -/
inductive Lex : List Nat → Option (List Tok) → Prop
  | nil : Lex [] (some [])
  | sp {r o} : Lex r o → Lex (32 :: r) o
  | bad {c r} : c ≠ 32 → lexC c r = none → Lex (c :: r) none
  | tok {c r t k o} : c ≠ 32 → lexC c r = some (t, k) → Lex ((c :: r).drop k) o → Lex (c :: r) (o.map (t :: ·))

theorem run_le (cs l : List Nat) : run cs l ≤ l.length := (List.takeWhile_sublist _).length_le
theorem run_pos {cs : List Nat} {c : Nat} {r : List Nat} (h : c ∈ cs) : 1 ≤ run cs (c :: r) := by
  unfold run
  rw [List.takeWhile_cons, if_pos (decide_eq_true h)]
  simp
theorem lexC_pos {c : Nat} {r : List Nat} {t : Tok} {k : Nat} (h : lexC c r = some (t, k)) : 1 ≤ k := by
  unfold lexC at h
  by_cases h1 : c ∈ LET
  · rw [if_pos h1] at h
    split at h
    · cases h
      exact run_pos h1
    · cases h
  rw [if_neg h1] at h
  by_cases h2 : c ∈ DIG
  · rw [if_pos h2] at h
    split at h
    · cases h
      exact run_pos h2
    · cases h
  rw [if_neg h2] at h
  by_cases h3 : c = 34
  · rw [if_pos h3] at h
    split at h
    · cases h
      omega
    · cases h
  rw [if_neg h3] at h
  split at h
  · cases h
    exact Nat.le_refl _
  · cases h
/-- every line is split in some way -/
theorem lex_all : ∀ (n : Nat) (l : List Nat), l.length ≤ n → ∃ o, Lex l o
  | _, [], _ => ⟨_, .nil⟩
  | 0, _ :: _, h => by simp at h
  | n + 1, c :: r, h => by
    have hr : r.length ≤ n := by simpa using h
    by_cases hc : c = 32
    · obtain ⟨o, ho⟩ := lex_all n r hr
      subst hc
      exact ⟨o, .sp ho⟩
    · cases e : lexC c r with
      | none => exact ⟨none, .bad hc e⟩
      | some tk =>
        obtain ⟨t, k⟩ := tk
        have hk := lexC_pos e
        obtain ⟨o, ho⟩ := lex_all n ((c :: r).drop k) (by rw [List.length_drop, List.length_cons]; omega)
        exact ⟨_, .tok hc e ho⟩
/-! ### quotes come in twos -/
def q34 (l : List Nat) : Nat := l.count 34
theorem q34_none {l : List Nat} (h : 34 ∉ l) : q34 l = 0 := List.count_eq_zero.mpr h
theorem q34_app (a b : List Nat) : q34 (a ++ b) = q34 a + q34 b := List.count_append
theorem run_take (cs l : List Nat) : l.take (run cs l) = l.takeWhile fun c => decide (c ∈ cs) := by
  unfold run
  exact (List.prefix_iff_eq_take.mp (List.takeWhile_prefix _)).symm
theorem mem_tw {p : Nat → Bool} {x : Nat} : ∀ {l : List Nat}, x ∈ l.takeWhile p → p x = true
  | [], h => by cases h
  | a :: l, h => by
    rw [List.takeWhile_cons] at h
    split at h
    · rename_i ha
      rcases List.mem_cons.mp h with rfl | h
      · exact ha
      · exact mem_tw h
    · cases h
theorem mem_run {cs l : List Nat} {c : Nat} (h : c ∈ l.take (run cs l)) : c ∈ cs := by
  rw [run_take] at h
  exact of_decide_eq_true (mem_tw h)
theorem at_tw {p : Nat → Bool} : ∀ {l : List Nat}, (l.takeWhile p).length < l.length → ∃ x, l[(l.takeWhile p).length]? = some x ∧ p x = false
  | [], h => by cases h
  | a :: l, h => by
    rw [List.takeWhile_cons] at h ⊢
    cases ha : p a with
    | true =>
      rw [ha] at h
      simp only [if_true, List.length_cons] at h ⊢
      obtain ⟨x, h1, h2⟩ := at_tw (p := p) (l := l) (by omega)
      exact ⟨x, by simpa using h1, h2⟩
    | false => exact ⟨a, by simp, ha⟩
theorem take_tw {p : Nat → Bool} (l : List Nat) : l.take (l.takeWhile p).length = l.takeWhile p := (List.prefix_iff_eq_take.mp (List.takeWhile_prefix _)).symm
theorem lexC_even {c : Nat} {r : List Nat} {t : Tok} {k : Nat} (h : lexC c r = some (t, k)) : q34 ((c :: r).take k) % 2 = 0 := by
  unfold lexC at h
  by_cases h1 : c ∈ LET
  · rw [if_pos h1] at h
    split at h
    · cases h
      rw [q34_none (fun z => absurd (mem_run z) (by decide))]
    · cases h
  rw [if_neg h1] at h
  by_cases h2 : c ∈ DIG
  · rw [if_pos h2] at h
    split at h
    · cases h
      rw [q34_none (fun z => absurd (mem_run z) (by decide))]
    · cases h
  rw [if_neg h2] at h
  by_cases h3 : c = 34
  · rw [if_pos h3] at h
    split at h
    · rename_i hk
      cases h
      subst h3
      have n1 : 34 ∉ r.take (toQ r) := fun z => by
        unfold toQ at z
        rw [take_tw] at z
        have := mem_tw z
        simp at this
      obtain ⟨x, hx, hp⟩ := at_tw (p := fun d => d != 34) (l := r) hk.1
      have hx' : x = 34 := by simpa using hp
      subst hx'
      have hx : r[toQ r]? = some 34 := hx
      rw [List.take_succ_cons, List.take_add_one, hx]
      show q34 ([34] ++ (r.take _ ++ [34])) % 2 = 0
      rw [q34_app, q34_app, q34_none n1]
      rfl
    · cases h
  rw [if_neg h3] at h
  split at h
  · cases h
    show q34 [c] % 2 = 0
    rw [q34_none (fun z => h3 (List.mem_singleton.mp z).symm)]
  · cases h
theorem lex_even {l : List Nat} {o : Option (List Tok)} (h : Lex l o) : o ≠ none → q34 l % 2 = 0 := by
  induction h with
  | nil => exact fun _ => rfl
  | sp _ ih =>
    intro h
    show q34 ([32] ++ _) % 2 = 0
    rw [q34_app]
    have := ih h
    have e : q34 [32] = 0 := rfl
    omega
  | bad _ _ => exact fun h => absurd rfl h
  | @tok c r t k o _ e _ ih =>
    intro h
    have h1 := lexC_even e
    have h2 := ih (fun z => h (by rw [z]; rfl))
    have e := q34_app ((c :: r).take k) ((c :: r).drop k)
    rw [List.take_append_drop] at e
    omega

/-! ### texts that are joined -/
/-- a token of the law's menu, spelled -/
def spell : Tok → List Nat
  | .word l => l
  | .num n => numT n
  | .str l => [34] ++ l ++ [34]
  | .sign c => [c]
/-- a token that is well made -/
def good : Tok → Prop
  | .word l => l ≠ [] ∧ l.length ≤ 6 ∧ ∀ c ∈ l, c ∈ LET
  | .num n => n ≤ 99999
  | .str l => l.length ≤ 20 ∧ ∀ c ∈ l, mayB c = true
  | .sign c => c ∈ SGN
/-- what may follow a token -/
def apart : Tok → List Nat → Prop
  | .word _, l => ∀ c r, l = c :: r → c ∉ LET
  | .num _, l => ∀ c r, l = c :: r → c ∉ DIG
  | _, _ => True
theorem run_all {cs a b : List Nat} (ha : ∀ c ∈ a, c ∈ cs) (hb : ∀ c r, b = c :: r → c ∉ cs) : run cs (a ++ b) = a.length := by
  unfold run
  rw [List.takeWhile_append_of_pos (fun c hc => decide_eq_true (ha c hc)), List.length_append]
  cases b with
  | nil => simp
  | cons c r => rw [List.takeWhile_cons, if_neg (by simpa using hb c r rfl)]; simp
theorem digits_len : ∀ (k m : Nat), m < 10 ^ (k + 1) → (Nat.toDigits 10 m).length ≤ k + 1
  | k, m, h => by
    by_cases hm : m < 10
    · rw [Nat.toDigits_of_lt_base hm]
      exact Nat.le_add_left _ _
    · cases k with
      | zero => exact absurd h hm
      | succ k =>
        have lt : m % 10 < 10 := Nat.mod_lt m (by decide)
        have t : Nat.toDigits 10 (m / 10) ++ Nat.toDigits 10 (m % 10) = Nat.toDigits 10 (10 * (m / 10) + m % 10) := Nat.toDigits_append_toDigits (by decide) (by omega) lt
        rw [Nat.div_add_mod] at t
        rw [← t, List.length_append, Nat.toDigits_of_lt_base lt]
        have := digits_len k (m / 10) (by rw [Nat.pow_succ] at h; omega)
        show (Nat.toDigits 10 (m / 10)).length + 1 ≤ k + 1 + 1
        omega
theorem numT_eq (n : Nat) : numT n = (Nat.toDigits 10 n).map Char.toNat := PySem.W.KIN.signs_num n
theorem numT_dig {n : Nat} (h : n ≤ 99999) : numT n ≠ [] ∧ (numT n).length ≤ 5 ∧ (∀ c ∈ numT n, c ∈ DIG) ∧ val (numT n) = n := by
  rw [numT_eq]
  refine ⟨fun e => ?_, ?_, fun c hc => ?_, PySem.W.KIN.val_back n⟩
  · have := PySem.W.KIN.val_back n
    have q := List.map_eq_nil_iff.mp e
    have l := toDigits_len_ge 10 n
    rw [q] at l
    exact absurd l (by decide)
  · rw [List.length_map]
    exact digits_len 4 n (by omega)
  · obtain ⟨ch, hch, e⟩ := List.mem_map.mp hc
    have r := PyProof.Rows.digit_range (Nat.isDigit_of_mem_toDigits (by decide) (by decide) hch)
    have hD : ∀ d, 48 ≤ d → d ≤ 57 → d ∈ DIG := by
      intro d h1 h2
      have : ∀ k, k < 10 → 48 + k ∈ DIG := by decide
      have q := this (d - 48) (by omega)
      rw [show 48 + (d - 48) = d by omega] at q
      exact q
    rw [← e]
    exact hD _ r.1 r.2
theorem let_dig {c : Nat} (h : c ∈ DIG) : c ∉ LET := fun z => by
  have : ∀ c ∈ DIG, c ∉ LET := by decide
  exact this c h z
theorem take_all {a b : List Nat} : (a ++ b).take a.length = a := List.take_left' rfl
theorem lex_spell {t : Tok} {b : List Nat} (g : good t) (ap : apart t b) : ∃ c r, spell t ++ b = c :: r ∧ c ≠ 32 ∧ lexC c r = some (t, (spell t).length) := by
  cases t with
  | word l =>
    obtain ⟨h1, h2, h3⟩ := g
    cases l with
    | nil => exact absurd rfl h1
    | cons c r =>
      have hc : c ∈ LET := h3 c List.mem_cons_self
      refine ⟨c, r ++ b, rfl, fun z => absurd hc (by rw [z]; decide), ?_⟩
      unfold lexC
      have e : run LET (c :: (r ++ b)) = (c :: r).length := run_all (a := c :: r) h3 ap
      rw [if_pos hc, e, if_pos h2]
      show some (Tok.word (((c :: r) ++ b).take (c :: r).length), _) = _
      rw [take_all]
      rfl
  | num n =>
    obtain ⟨h1, h2, h3, h4⟩ := numT_dig (show n ≤ 99999 from g)
    show ∃ c r, numT n ++ b = c :: r ∧ c ≠ 32 ∧ lexC c r = some (Tok.num n, (numT n).length)
    obtain ⟨l, hl⟩ : ∃ l, l = numT n := ⟨_, rfl⟩
    rw [← hl] at h1 h2 h3 h4 ⊢
    cases l with
    | nil => exact absurd rfl h1
    | cons c r =>
      have hc : c ∈ DIG := h3 c List.mem_cons_self
      refine ⟨c, r ++ b, rfl, fun z => absurd hc (by rw [z]; decide), ?_⟩
      unfold lexC
      have e : run DIG (c :: (r ++ b)) = (c :: r).length := run_all (a := c :: r) h3 ap
      have e2 : (c :: (r ++ b)).take (c :: r).length = c :: r := take_all (a := c :: r) (b := b)
      rw [if_neg (let_dig hc), if_pos hc, e, e2, h4, if_pos ⟨h2, hl⟩]
  | str l =>
    obtain ⟨h1, h2⟩ := g
    refine ⟨34, l ++ [34] ++ b, rfl, by decide, ?_⟩
    unfold lexC
    have n34 : ∀ c ∈ l, (c != 34) = true := fun c hc => by
      have := h2 c hc
      unfold mayB at this
      have := of_decide_eq_true this
      simp [this.2.2.2.1]
    have e : toQ (l ++ [34] ++ b) = l.length := by
      unfold toQ
      rw [List.append_assoc, List.takeWhile_append_of_pos n34, List.length_append]
      show l.length + (List.takeWhile _ (34 :: b)).length = _
      rw [List.takeWhile_cons, if_neg (by decide)]
      rfl
    have e2 : (l ++ [34] ++ b).take l.length = l := by rw [List.append_assoc]; exact take_all
    rw [if_neg (by decide), if_neg (by decide), if_pos rfl, e, e2, if_pos ⟨by simp, h1, List.all_eq_true.mpr h2⟩]
    show some (Tok.str l, l.length + 2) = some (Tok.str l, ([34] ++ l ++ [34]).length)
    simp
  | sign c =>
    have hs : c ∈ SGN := g
    have hd : ∀ c ∈ SGN, c ∉ LET ∧ c ∉ DIG ∧ c ≠ 34 ∧ c ≠ 32 := by decide
    obtain ⟨h1, h2, h3, h4⟩ := hd c hs
    refine ⟨c, b, rfl, h4, ?_⟩
    unfold lexC
    rw [if_neg h1, if_neg h2, if_neg h3, if_pos hs]
    rfl

/-- tokens with gaps of blanks behind them -/
def joined : List (Tok × Nat) → List Nat
  | [] => []
  | (t, g) :: r => spell t ++ List.replicate g 32 ++ joined r
/-- where a gap must stand -/
def gapped : List (Tok × Nat) → Prop
  | (t, g) :: (u, h) :: r => (g = 0 → apart t (spell u ++ (List.replicate h 32 ++ joined r))) ∧ gapped ((u, h) :: r)
  | _ => True
theorem lex_blanks {l : List Nat} {o : Option (List Tok)} (h : Lex l o) : ∀ g, Lex (List.replicate g 32 ++ l) o
  | 0 => h
  | g + 1 => by
    rw [List.replicate_succ]
    exact .sp (lex_blanks h g)
/-- a joined text is split into its tokens, and what stands behind is split as it is -/
theorem lex_joined {tail : List Nat} {o : Option (List Tok)} (ht : Lex tail o) (hs : ∀ c r, tail = c :: r → c = 32) :
    ∀ (l : List (Tok × Nat)), (∀ p ∈ l, good p.1) → gapped l → Lex (joined l ++ tail) (o.map (l.map (·.1) ++ ·))
  | [], _, _ => by
    have e : (o.map (([] : List (Tok × Nat)).map (·.1) ++ ·)) = o := by cases o <;> rfl
    rw [e]
    exact ht
  | (t, g) :: r, hg, hp => by
    have hr : Lex (joined r ++ tail) (o.map (r.map (·.1) ++ ·)) := lex_joined ht hs r (fun p h => hg p (List.mem_cons_of_mem _ h)) (by cases r with | nil => trivial | cons a b => exact hp.2)
    have ap : apart t (List.replicate g 32 ++ (joined r ++ tail)) := by
      have sp : ∀ l : List Nat, apart t (32 :: l) := fun l => by
        cases t with
        | word _ => exact fun c r e => by cases e; decide
        | num _ => exact fun c r e => by cases e; decide
        | str _ => trivial
        | sign _ => trivial
      cases g with
      | succ g => exact sp _
      | zero =>
        cases r with
        | nil =>
          cases tail with
          | nil => cases t <;> first | trivial | exact fun c r e => by cases e
          | cons c q => rw [hs c q rfl]; exact sp _
        | cons a b =>
          obtain ⟨u, h⟩ := a
          have q := hp.1 rfl
          show apart t (spell u ++ List.replicate h 32 ++ joined b ++ tail)
          have ne : spell u ≠ [] := by
            have gu := hg (u, h) (by simp)
            cases u with
            | word l => exact gu.1
            | num n => exact (numT_dig gu).1
            | str l => exact fun z => by cases z
            | sign c => exact fun z => by cases z
          cases e : spell u with
          | nil => exact absurd e ne
          | cons c v =>
            rw [e] at q
            cases t with
            | word _ => exact fun c' r' e' => by cases e'; exact q c _ rfl
            | num _ => exact fun c' r' e' => by cases e'; exact q c _ rfl
            | str _ => trivial
            | sign _ => trivial
    obtain ⟨c, v, e1, e2, e3⟩ := lex_spell (hg (t, g) List.mem_cons_self) ap
    have e0 : joined ((t, g) :: r) ++ tail = spell t ++ (List.replicate g 32 ++ (joined r ++ tail)) := by
      show spell t ++ List.replicate g 32 ++ joined r ++ tail = _
      simp only [List.append_assoc]
    rw [e0, e1]
    have e4 : (c :: v).drop (spell t).length = List.replicate g 32 ++ (joined r ++ tail) := by
      rw [← e1]
      exact List.drop_left' rfl
    have := Lex.tok e2 e3 (by rw [e4]; exact lex_blanks hr g)
    cases o with
    | none => exact this
    | some ts => exact this
end K1

set_option maxRecDepth 100000
set_option maxHeartbeats 4000000
namespace K1
open PySem PySem.Spec PyProof.Rows L2 GD
section
variable {P : Program} {w : World} {K : PySem.W.Frag} {mg : Str → Option Value} {base : Heap}

theorem item_S {L : List Nat} {i : Nat} {c : Nat} (h : L[i]? = some c) : (S L).cps[((i : Nat) : Int).toNat]? = some c := by
  show (L.toArray)[i]? = some c
  simpa using h
theorem cut_S (L : List Nat) (a b : Nat) (h1 : a ≤ b) (h2 : b ≤ L.length) : cutS (S L) (some (a : Nat)) (some (b : Nat)) = S ((L.drop a).take (b - a)) := by
  unfold cutS
  rw [S_len, HT.sIx_nat, HT.sIx_nat, Nat.min_eq_left h2, Nat.min_eq_left (by omega)]
  rfl
theorem smallL {n : Nat} (h : n ≤ 5000) : n ≤ sizeLine := Nat.le_trans h (by decide)

theorem in63 {L : List Nat} {e : Nat} (hl : L.length ≤ 5000) (lt : e < L.length) : ((e : Nat) : Int) < 2 ^ 63 := by
  have : e < 5000 := by omega
  omega
theorem in_S {L : List Nat} {e : Nat} (lt : e < L.length) : ((e : Nat) : Int) < (S L).length := by
  rw [S_len]
  omega
/-! ### end_of_run -/
def endRun (cs L : List Nat) (at_ : Nat) : Nat := at_ + run cs (L.drop at_)
theorem run_drop {cs L : List Nat} {i c : Nat} (h : L[i]? = some c) (hc : c ∈ cs) : endRun cs L i = endRun cs L (i + 1) := by
  unfold endRun run
  have e : L.drop i = c :: L.drop (i + 1) := by
    obtain ⟨h1, h2⟩ := List.getElem?_eq_some_iff.mp h
    rw [List.drop_eq_getElem_cons h1, h2]
  rw [e, List.takeWhile_cons, if_pos (decide_eq_true hc), List.length_cons]
  omega
theorem run_stop {cs L : List Nat} {i : Nat} (h : ∀ c, L[i]? = some c → c ∉ cs) : endRun cs L i = i := by
  unfold endRun run
  cases e : L.drop i with
  | nil => rfl
  | cons c r =>
    have q : L[i]? = some c := by
      have : (L.drop i)[0]? = some c := by rw [e]; rfl
      rw [List.getElem?_drop] at this
      exact this
    rw [List.takeWhile_cons, if_neg (by simpa using h c q)]
    rfl
def spEnd : Sp := fun vs H Q _ => ∃ (L cs : List Nat) (at_ : Nat), vs = [.str (S L), .int (at_ : Nat), .str (S cs)] ∧ at_ ≤ L.length ∧ L.length ≤ 5000 ∧ Q (.int (endRun cs L at_ : Nat)) H
theorem scEnd : FnScope ["line", "at", "characters", "end"] ["line", "at", "characters"] (defScope sEndOfRun) := ⟨rfl, rfl, rfl, by decide +kernel, rfl, by decide +kernel, by decide +kernel⟩
theorem ok_end {f : Addr} {fd : FuncData} (F : Fun K "end_of_run" "end_of_run" sEndOfRun f fd) (T : Txt K mg) : FnOk P w K mg base CX0 1 f fd ["line", "at", "characters"] spEnd := by
  have sc := scEnd
  refine F.ok sc (fun vs H Q E h => ?_) (fun cdv A outer s H vs Q E hr h => ?_)
  · obtain ⟨L, cs, at_, rfl, _⟩ := h
    rfl
  · obtain ⟨L, cs, at_, rfl, ha, hl, q⟩ := h
    refine ⟨_, (pss_cons (ps_set (i := 3) sc.nd rfl (.inl rfl) (pv 1))
(pss_cons (ps_while PassesOwn.never (PW.pt (pw_and (pt_cmpR op_lt (pv 3) (pe_callB call_len_str (by rfl) T.len (by decide +kernel) (pa_cons (pv 0) pa_nil)) (nomark _)) (pw_and1 (pt_cmpR op_in_sign (pe_item_str (pv 0) (pv 3) (fun _ _ => rfl)) (pv 2) rfl))))
(pss_one (ps_aug (i := 3) sc.nd rfl (.inl rfl) pe_int ip_add)))
(pss_one (ps_ret (pv 3))))), ?_⟩
    refine ⟨_, rfl, fun m σ H' => ∃ e : Nat, σ = [some (.str (S L)), some (.int (at_ : Nat)), some (.str (S cs)), some (.int (e : Nat))] ∧ H' = H ∧ e ≤ L.length ∧ m = L.length - e ∧ endRun cs L e = endRun cs L at_, ⟨_, at_, rfl, rfl, ha, rfl, rfl⟩, ?_⟩
    rintro m σ H' ⟨e, rfl, rfl, he, rfl, hq⟩
    have done : endRun cs L e = e → Q (.int (e : Nat)) H' := fun z => by rw [← hq, z] at q; exact q
    refine ⟨_, rfl, _, rfl, _, rfl, by rw [S_len]; exact smallL hl, _, _, rfl, rfl, _, rfl, ?_⟩
    refine ite2 (fun h1 => ?_) (fun h1 => ?_)
    · have lt : e < L.length := by
        have := of_decide_eq_true h1
        rw [S_len] at this
        omega
      have hx := List.getElem?_eq_getElem lt
      refine ⟨_, rfl, _, rfl, _, _, _, rfl, rfl, by omega, in63 hl lt, in_S lt, item_S hx, _, rfl, _, _, rfl, rfl, _, rfl, ite2 (fun h2 => ?_) (fun h2 => ?_)⟩
      · have h2 : L[e] ∈ cs := of_decide_eq_true h2
        refine ⟨fun σ' H2 => σ' = [some (.str (S L)), some (.int (at_ : Nat)), some (.str (S cs)), some (.int ((e + 1 : Nat) : Int))] ∧ H2 = H', fun σ' H2 h => ?_, _, rfl, _, _, rfl, rfl, rfl, rfl⟩
        obtain ⟨rfl, rfl⟩ := h
        exact ⟨_, by omega, e + 1, rfl, rfl, lt, rfl, by rw [← run_drop hx h2]; exact hq⟩
      · have h2 : L[e] ∉ cs := fun z => h2 (decide_eq_true z)
        exact ⟨_, rfl, done (run_stop fun c hc => by rw [hx] at hc; cases hc; exact h2)⟩
    · have ge : e = L.length := by
        have : ¬ ((e : Int) < (S L).length) := fun z => h1 (decide_eq_true z)
        rw [S_len] at this
        omega
      refine iteF ⟨_, rfl, done (run_stop fun c hc => ?_)⟩
      rw [ge, List.getElem?_eq_none (Nat.le_refl _)] at hc
      cases hc
end
end K1

set_option maxRecDepth 100000
set_option maxHeartbeats 4000000
namespace K1
open PySem PySem.Spec PyProof.Rows L2 GD
theorem pe_gstr {X : Cx} {x z : Str} {t : PySem.Tok} {pos : Pos} (hg : Gl X x) (hm : X.mg x = some (.str z t)) (hd : (x == ("__debug__" : Str)) = false := by decide) : PE X (.Name x pos) (tC (.str z)) := pe_glob hg hm ⟨_, rfl⟩ hd
theorem pe_gint {X : Cx} {x : Str} {i : Int} {t : PySem.Tok} {pos : Pos} (hg : Gl X x) (hm : X.mg x = some (.int i t)) (hd : (x == ("__debug__" : Str)) = false := by decide) : PE X (.Name x pos) (tC (.int i)) := pe_glob hg hm ⟨_, rfl⟩ hd
/-- all is kept but the table at P, which may have grown -/
def Kp (P : Addr) (H H' : Hp) : Prop := GxR.TabG H' P ∧ ∀ b o, b ≠ P → H b = some o → H' b = some o
theorem Same.kp {P : Addr} {H H' : Hp} (s : Same H H') (t : GxR.TabG H P) : Kp P H H' := by
  obtain ⟨ps, e, r⟩ := t
  exact ⟨⟨ps, s _ _ e, r⟩, fun b o _ h => s b o h⟩
theorem Kp.refl {P : Addr} {H : Hp} (t : GxR.TabG H P) : Kp P H H := Same.kp (Same.refl H) t
theorem Kp.trans {P : Addr} {H H1 H2 : Hp} (a : Kp P H H1) (b : Kp P H1 H2) : Kp P H H2 := ⟨b.1, fun c o n h => b.2 c o n (a.2 c o n h)⟩
theorem Kp.of {P : Addr} {H H' : Hp} (t : GxR.Tabbed P H H') : Kp P H H' := ⟨t.1, fun b o n h => by rw [t.2 b n]; exact h⟩
theorem TabG.ne {P p : Addr} {H : Hp} (t : GxR.TabG H P) (n : H p = none) : p ≠ P := fun e => by
  obtain ⟨ps, h, _⟩ := t
  rw [e, h] at n
  cases n
theorem Kp.free {P p : Addr} {H H' : Hp} (k : Kp P H H') (n : H' p = none) (t : GxR.TabG H P) : H p = none := by
  cases e : H p with
  | none => rfl
  | some o =>
    have := k.2 p o (TabG.ne k.1 n) e
    rw [n] at this
    cases this

theorem two_le : 2 ≤ sizeLine := by decide
def tokV : Tok → List V
  | .word l => [.str "word", .str (S l)]
  | .num n => [.str "number", .int (n : Nat)]
  | .str l => [.str "string", .str (S l)]
  | .sign c => [.str "sign", .str (S [c])]
/-- what a def gives back that reads one token -/
def TokRes (P : Addr) (H : Hp) (at_ : Nat) (o : Option (Tok × Nat)) (H' : Hp) (p : Addr) : Prop :=
  Kp P H H' ∧ H p = none ∧ (o = none → ∃ e : Int, H' p = some (.tup [.non, .int e])) ∧
    ∀ t k, o = some (t, k) → ∃ q, H q = none ∧ H' p = some (.tup [.ref q, .int ((at_ + k : Nat) : Int)]) ∧ H' q = some (.tup (tokV t))
def spTok (P : Addr) (ok : Nat → Prop) : Sp := fun vs H Q _ => ∃ (L : List Nat) (at_ c : Nat), vs = [.str (S L), .int (at_ : Nat)] ∧ L[at_]? = some c ∧ ok c ∧ L.length ≤ 5000 ∧ GxR.TabG H P ∧
  ∀ H' p, TokRes P H at_ (lexC c (L.drop (at_ + 1))) H' p → Q (.ref p) H'
theorem tok_none {P : Addr} {H : Hp} {at_ : Nat} {e : Int} {p : Addr} (t : GxR.TabG H P) (n : H p = none) : TokRes P H at_ none (upd H p (.tup [.non, .int e])) p :=
  ⟨Same.kp (Same.lst (Same.refl H) n) t, n, fun _ => ⟨e, upd_same⟩, fun _ _ z => by cases z⟩
theorem tok_some {P : Addr} {H : Hp} {at_ k : Nat} {t : Tok} {p q : Addr} (tb : GxR.TabG H P) (n : H q = none) (n2 : (upd H q (.tup (tokV t))) p = none) :
    TokRes P H at_ (some (t, k)) (upd (upd H q (.tup (tokV t))) p (.tup [.ref q, .int ((at_ + k : Nat) : Int)])) p := by
  have s1 : Same H (upd H q (.tup (tokV t))) := Same.lst (Same.refl H) n
  have np : H p = none := s1.free n2
  have ne : q ≠ p := ne_of_none (upd_same (H := H) (a := q) (o := .tup (tokV t))) n2
  refine ⟨Same.kp (Same.lst s1 np) tb, np, (fun z => by cases z), fun t' k' z => ?_⟩
  cases z
  exact ⟨q, n, upd_same, by rw [upd_ne ne, upd_same]⟩
theorem tok_kp {P : Addr} {H H1 H' : Hp} {at_ : Nat} {o : Option (Tok × Nat)} {p : Addr} (k : Kp P H H1) (tb : GxR.TabG H P) (r : TokRes P H1 at_ o H' p) : TokRes P H at_ o H' p := by
  obtain ⟨k1, n, h1, h2⟩ := r
  refine ⟨k.trans k1, k.free n tb, h1, fun t k' e => ?_⟩
  obtain ⟨q, n', e1, e2⟩ := h2 t k' e
  exact ⟨q, k.free n' tb, e1, e2⟩

section
variable {P : Program} {w : World} {K : PySem.W.Frag} {mg : Str → Option Value} {base : Heap}
theorem drop_at {L : List Nat} {i c : Nat} (h : L[i]? = some c) : L.drop i = c :: L.drop (i + 1) := by
  obtain ⟨h1, h2⟩ := List.getElem?_eq_some_iff.mp h
  rw [List.drop_eq_getElem_cons h1, h2]
theorem lt_at {L : List Nat} {i c : Nat} (h : L[i]? = some c) : i < L.length := (List.getElem?_eq_some_iff.mp h).1
theorem letS : (("abcdefghijklmnopqrstuvwxyz" : Str)) = S LET := (S_of _).symm
theorem digS : (("0123456789" : Str)) = S DIG := (S_of _).symm
theorem sgnS : (("(),;+-*<=" : Str)) = S SGN := (S_of _).symm
theorem cut_run {cs L : List Nat} {at_ : Nat} (h : at_ ≤ L.length) : cutS (S L) (some (at_ : Nat)) (some ((endRun cs L at_ : Nat) : Int)) = S ((L.drop at_).take (run cs (L.drop at_))) := by
  have := run_le cs (L.drop at_)
  rw [List.length_drop] at this
  rw [cut_S L at_ (endRun cs L at_) (by unfold endRun; omega) (by unfold endRun; omega)]
  unfold endRun
  rw [Nat.add_sub_cancel_left]

/-! ### word_at -/
theorem scWord : FnScope ["line", "at", "end"] ["line", "at"] (defScope sWordAt) := ⟨rfl, rfl, rfl, by decide +kernel, rfl, by decide +kernel, by decide +kernel⟩
theorem ok_word {f fe PT : Addr} {fd fde : FuncData} (F : Fun K "word_at" "word_at" sWordAt f fd) (T : Txt K mg) (FE : FnOk P w K mg base CX0 1 fe fde ["line", "at", "characters"] spEnd)
    (me : mg "end_of_run" = some (.ref fe)) (ke : PySem.W.keepIn K (.ref fe) = true) (be : Binds K fde ["line", "at", "characters"] []) : FnOk P w K mg base CX0 2 f fd ["line", "at"] (spTok PT (· ∈ LET)) := by
  have sc := scWord
  obtain ⟨tl, gl⟩ := T.LETTERS
  obtain ⟨tn, gn⟩ := T.NAME_MOST
  refine F.ok sc (fun vs H Q E h => ?_) (fun cdv A outer s H vs Q E hr h => ?_)
  · obtain ⟨L, a, c, rfl, _⟩ := h
    rfl
  · obtain ⟨L, a, c, rfl, hx, hc, hl, tb, q⟩ := h
    have lt := lt_at hx
    refine ⟨_, (pss_cons (ps_set (i := 2) sc.nd rfl (.inl rfl) (pe_call FE hr (by rfl) me ke be .nil pass0 (pa_cons (pv 0) (pa_cons (pv 1) (pa_cons (pe_gstr rfl gl) pa_nil)))))
(pss_cons (ps_if (pt_cmpR op_gt (pe_op op_sub (pv 2) (pv 1)) (pe_gint rfl gn) (nomark _))
(pss_one (ps_ret (pe_tup (pa_cons pe_non (pa_cons (pv 2) pa_nil))))) pss_nil)
(pss_one (ps_ret (pe_tup (pa_cons (pe_tup (pa_cons pe_str (pa_cons (pe_slice sl_str (pv 0) (po_some (pv 1)) (po_some (pv 2))) pa_nil))) (pa_cons (pv 2) pa_nil))))))), ?_⟩
    refine ⟨_, rfl, _, rfl, L, LET, a, by rw [letS]; rfl, Nat.le_of_lt lt, hl, ?_⟩
    have er : endRun LET L a = a + run LET (L.drop a) := rfl
    have ed := drop_at hx
    have elex : lexC c (L.drop (a + 1)) = (if run LET (L.drop a) ≤ 6 then some (.word ((L.drop a).take (run LET (L.drop a))), run LET (L.drop a)) else none) := by
      unfold lexC
      rw [if_pos hc, ← ed]
    refine ⟨_, rfl, _, rfl, _, _, rfl, rfl, _, _, rfl, rfl, _, rfl, ite2 (fun h => ?_) (fun h => ?_)⟩
    · have h1 : ¬ run LET (L.drop a) ≤ 6 := by
        have := of_decide_eq_true h
        rw [er] at this
        omega
      rw [if_neg h1] at elex
      rw [elex] at q
      exact ⟨_, rfl, two_le, fun p np => q _ p (tok_none tb np)⟩
    · have h1 : run LET (L.drop a) ≤ 6 := by
        have : ¬ ((6 : Int) < (endRun LET L a : Nat) - (a : Nat)) := fun z => h (decide_eq_true z)
        rw [er] at this
        omega
      rw [if_pos h1] at elex
      rw [elex] at q
      refine ⟨_, rfl, _, rfl, _, rfl, _, rfl, _, rfl, _, rfl, by rw [S_len]; exact smallL hl, two_le, fun u nu => ⟨_, rfl, two_le, fun p np => ?_⟩⟩
      rw [cut_run (Nat.le_of_lt lt)] at np ⊢
      rw [er]
      exact q _ p (tok_some tb nu np)

/-! ### number_at -/
theorem dig_range {c : Nat} (h : c ∈ DIG) : 48 ≤ c ∧ c ≤ 57 := by
  have : ∀ c ∈ DIG, 48 ≤ c ∧ c ≤ 57 := by decide
  exact this c h
theorem val_lt : ∀ (ds : List Nat) (acc : Nat), (∀ c ∈ ds, c ∈ DIG) → ds.foldl (fun acc c => acc * 10 + (c - 48)) acc < (acc + 1) * 10 ^ ds.length
  | [], acc, _ => by simp
  | c :: r, acc, h => by
    have hc := dig_range (h c List.mem_cons_self)
    have ih := val_lt r (acc * 10 + (c - 48)) (fun d hd => h d (List.mem_cons_of_mem _ hd))
    rw [List.foldl_cons, List.length_cons, Nat.pow_succ]
    refine Nat.lt_of_lt_of_le ih ?_
    rw [Nat.mul_comm (10 ^ r.length) 10, ← Nat.mul_assoc]
    exact Nat.mul_le_mul_right _ (by omega)
theorem val_small {ds : List Nat} (h : ∀ c ∈ ds, c ∈ DIG) (hl : ds.length ≤ 5) : val ds < 100000 := by
  have q := val_lt ds 0 h
  have e : 10 ^ ds.length ≤ 10 ^ 5 := Nat.pow_le_pow_right (by decide) hl
  unfold val
  omega
theorem log_small {n : Nat} (h : n < 100000) : ((n : Nat) : Int).natAbs.log2 < 1920 := by
  rw [Int.natAbs_natCast]
  by_cases h0 : n = 0
  · rw [h0]
    decide
  · have := (Nat.log2_lt (k := 1920) h0).mpr (Nat.lt_of_lt_of_le h (by
      have : 100000 ≤ 2 ^ 17 := by decide
      exact Nat.le_trans this (Nat.pow_le_pow_right (by decide) (by decide))))
    exact this
theorem scNum : FnScope ["line", "at", "end", "digits"] ["line", "at"] (defScope sNumberAt) := ⟨rfl, rfl, rfl, by decide +kernel, rfl, by decide +kernel, by decide +kernel⟩
theorem ok_num {f fe PT : Addr} {fd fde : FuncData} (F : Fun K "number_at" "number_at" sNumberAt f fd) (T : Txt K mg) (FE : FnOk P w K mg base CX0 1 fe fde ["line", "at", "characters"] spEnd)
    (me : mg "end_of_run" = some (.ref fe)) (ke : PySem.W.keepIn K (.ref fe) = true) (be : Binds K fde ["line", "at", "characters"] []) : FnOk P w K mg base CX0 2 f fd ["line", "at"] (spTok PT (· ∈ DIG)) := by
  have sc := scNum
  obtain ⟨tl, gl⟩ := T.DIGITS
  obtain ⟨tn, gn⟩ := T.NUMBER_MOST
  refine F.ok sc (fun vs H Q E h => ?_) (fun cdv A outer s H vs Q E hr h => ?_)
  · obtain ⟨L, a, c, rfl, _⟩ := h
    rfl
  · obtain ⟨L, a, c, rfl, hx, hc, hl, tb, q⟩ := h
    have lt := lt_at hx
    refine ⟨_, (pss_cons (ps_set (i := 2) sc.nd rfl (.inl rfl) (pe_call FE hr (by rfl) me ke be .nil pass0 (pa_cons (pv 0) (pa_cons (pv 1) (pa_cons (pe_gstr rfl gl) pa_nil)))))
(pss_cons (ps_set (i := 3) sc.nd rfl (.inl rfl) (pe_slice sl_str (pv 0) (po_some (pv 1)) (po_some (pv 2))))
(pss_cons (ps_if (PW.pt (pw_or (pt_cmpR op_gt (pe_callB call_len_str (by rfl) T.len (by decide +kernel) (pa_cons (pv 3) pa_nil)) (pe_callB call_len_str (by rfl) T.len (by decide +kernel) (pa_cons (pe_callTy call_str_int (by rfl) T.bstr (by decide +kernel) (pa_cons (pe_gint rfl gn) pa_nil)) pa_nil)) (nomark _)) (pw_or1 (pt_cmpR op_ne (pv 3) (pe_callTy call_str_int (by rfl) T.bstr (by decide +kernel) (pa_cons (pe_callTy call_int_str (by rfl) T.bint (by decide +kernel) (pa_cons (pv 3) pa_nil)) pa_nil)) (nomark _)))))
(pss_one (ps_ret (pe_tup (pa_cons pe_non (pa_cons (pv 2) pa_nil))))) pss_nil)
(pss_one (ps_ret (pe_tup (pa_cons (pe_tup (pa_cons pe_str (pa_cons (pe_callTy call_int_str (by rfl) T.bint (by decide +kernel) (pa_cons (pv 3) pa_nil)) pa_nil))) (pa_cons (pv 2) pa_nil)))))))), ?_⟩
    refine ⟨_, rfl, _, rfl, L, DIG, a, by rw [digS]; rfl, Nat.le_of_lt lt, hl, ?_⟩
    have er : endRun DIG L a = a + run DIG (L.drop a) := rfl
    have ed := drop_at hx
    have nl : c ∉ LET := let_dig hc
    obtain ⟨ds, eds⟩ : ∃ ds, ds = (L.drop a).take (run DIG (L.drop a)) := ⟨_, rfl⟩
    have dlen : ds.length = run DIG (L.drop a) := by rw [eds, List.length_take, Nat.min_eq_left (run_le _ _)]
    have dall : ∀ d ∈ ds, d ∈ DIG := fun d hd => by rw [eds] at hd; exact mem_run hd
    have dne : ds ≠ [] := fun z => by
      have h1 : 1 ≤ run DIG (L.drop a) := by rw [ed]; exact run_pos hc
      rw [z] at dlen
      simp at dlen
      omega
    have elex : lexC c (L.drop (a + 1)) = (if run DIG (L.drop a) ≤ 5 ∧ ds = numT (val ds) then some (.num (val ds), run DIG (L.drop a)) else none) := by
      unfold lexC
      rw [if_neg nl, if_pos hc, ← ed, ← eds]
    refine ⟨_, rfl, _, rfl, _, rfl, _, rfl, _, rfl, _, rfl, by rw [S_len]; exact smallL hl, ?_⟩
    rw [cut_run (Nat.le_of_lt lt), ← eds]
    have dsz : ds.length ≤ 5000 := by
      have := run_le DIG (L.drop a)
      rw [List.length_drop] at this
      omega
    refine ⟨_, rfl, _, rfl, by rw [S_len]; exact smallL dsz, _, rfl, by decide, _, rfl, by decide, _, _, rfl, rfl, _, rfl, ?_⟩
    have rdI : ds.length ≤ 5 → PySem.intText? (S ds) = some ((val ds : Nat) : Int) ∧ (S ds).length ≤ 640 := fun h => by
      refine ⟨PySem.intText_digits (x := S ds) (fun d hd => dig_range (dall d hd)) dne (by rw [S_len]; omega), by rw [S_len]; omega⟩
    have bad : ∀ e : Int, lexC c (L.drop (a + 1)) = none → ∀ p, H p = none → Q (.ref p) (upd H p (.tup [.non, .int e])) := fun e z p np => by
      rw [z] at q
      exact q _ p (tok_none tb np)
    refine ite2 (fun h => ?_) (fun h => ?_)
    · have h1 : ¬ run DIG (L.drop a) ≤ 5 := by
        have h := of_decide_eq_true h
        rw [S_len, dlen] at h
        have e5 : ((toString (99999 : Int) : Str)).length = 5 := by decide
        rw [e5] at h
        omega
      refine iteT ⟨_, rfl, two_le, fun p np => bad _ ?_ p np⟩
      rw [elex, if_neg (fun z => h1 z.1)]
    · have h1 : ds.length ≤ 5 := by
        have e5 : ((toString (99999 : Int) : Str)).length = 5 := by decide
        have : ¬ (((toString (99999 : Int) : Str)).length : Int) < (S ds).length := fun z => h (decide_eq_true z)
        rw [S_len, e5] at this
        omega
      obtain ⟨r1, r2⟩ := rdI h1
      refine ⟨_, rfl, _, rfl, _, _, rfl, r1, r2, _, rfl, log_small (val_small dall h1), rfl, _, rfl, ?_⟩
      have cmp : ∀ {A B : Prop}, (ds = numT (val ds) → B) → (ds ≠ numT (val ds) → A) → if (!decide (V.str (S ds) = V.str (toString ((val ds : Nat) : Int) : Str))) = true then A else B := fun hB hA => by
        by_cases z : ds = numT (val ds)
        · have e : V.str (S ds) = V.str (toString ((val ds : Nat) : Int) : Str) := by
            have : S ds = (Str.ofString (toString ((val ds : Nat) : Int))) := by
              rw [← S_of (Str.ofString (toString ((val ds : Nat) : Int)))]
              exact congrArg S z
            rw [this]
          rw [decide_eq_true e]
          exact iteF (hB z)
        · have e : V.str (S ds) ≠ V.str (toString ((val ds : Nat) : Int) : Str) := fun y => z (by
            injection y with y
            exact congrArg (fun z : Str => z.cps.toList) y)
          rw [decide_eq_false e]
          exact iteT (hA z)
      refine cmp (fun z => ?_) (fun z => ?_)
      · rw [if_pos ⟨by omega, z⟩] at elex
        rw [elex] at q
        refine ⟨_, rfl, _, _, rfl, r1, r2, two_le, fun u nu => ⟨_, rfl, two_le, fun p np => ?_⟩⟩
        rw [er]
        exact q _ p (tok_some tb nu np)
      · refine ⟨_, rfl, two_le, fun p np => bad _ ?_ p np⟩
        rw [elex, if_neg (fun y => z y.2)]
end
end K1

set_option maxRecDepth 100000
set_option maxHeartbeats 4000000
namespace K1
open PySem PySem.Spec PyProof.Rows L2 GD
section
variable {P : Program} {w : World} {K : PySem.W.Frag} {mg : Str → Option Value} {base : Heap}

/-- what the generator expressions' scopes say -/
def genScope (e : Expr) : Scope := match e with
  | .Call _ [.GeneratorExp _ _ sc _] _ _ => sc
  | _ => { kind := .function, names := [], isGenerator := false, isCoroutine := false }
def retE (s : Stmt) : Expr := match s with
  | .Return (some e) _ => e
  | _ => .Constant .none 0 ⟨0, 0, 0, 0⟩
def gsVal : Scope := genScope (retE ((defBody sIsValue).getD 3 (.Pass ⟨0, 0, 0, 0⟩)))
def gsNam : Scope := genScope (retE ((defBody sIsName).getD 1 (.Pass ⟨0, 0, 0, 0⟩)))
theorem gsVal_cell : ∀ y ∈ gsVal.names, y.2 ≠ .cell := by decide +kernel
theorem gsVal_free : ∀ y ∈ gsVal.names, y.2 ≠ .free := by decide +kernel
theorem gsNam_cell : ∀ y ∈ gsNam.names, y.2 ≠ .cell := by decide +kernel
theorem gsNam_free : ∀ y ∈ gsNam.names, y.2 ≠ .free := by decide +kernel

def strV (z : Str) : Bool := decide (z.length ≤ 20) && z.cps.toList.all mayC
def spValue (PV : Addr) : Sp := fun vs H Q _ => (∃ z : Str, vs = [.str z] ∧ z.length ≤ 5000 ∧ GxR.TabG H PV ∧ ∀ H', Kp PV H H' → Q (.bl (strV z)) H') ∨
  ∃ i : Int, vs = [.int i] ∧ Q (.bl (decide (-99999 ≤ i ∧ i ≤ 99999))) H
theorem scVal : FnScope ["value"] ["value"] (defScope sIsValue) := ⟨rfl, rfl, rfl, by decide +kernel, rfl, by decide +kernel, by decide +kernel⟩
theorem ok_value {f cV PV : Addr} {oc : Value} {od an : Option Addr} {osl : Array (Option Value)} {kV doc pm cdv ct : Value}
    (lk : K.lookup f = some ⟨oc, od, .func (PySem.W.fnOf "is_value" "is_value" (defArgs sIsValue) (defBody sIsValue) (defScope sIsValue) .none kV doc pm an cdv ct), osl⟩)
    (hcd : PySem.W.codeIn K cdv "is_value" = true) (ecd : cdv = .ref cV) (TB : GxR.TabB base mg cV PV) (T : Txt K mg) :
    FnOk P w K mg base CX0 2 f (PySem.W.fnOf "is_value" "is_value" (defArgs sIsValue) (defBody sIsValue) (defScope sIsValue) .none kV doc pm an cdv ct) ["value"] (spValue PV) := by
  have sc := scVal
  obtain ⟨t1, g1⟩ := T.CHARACTERS
  obtain ⟨t4, g4⟩ := T.NUMBER_MOST
  obtain ⟨t5, g5⟩ := T.STRING_MOST
  refine okC lk hcd sc (fun vs H Q E h => ?_) (fun A outer s H vs Q E hr h => ?_)
  · rcases h with ⟨z, rfl, _⟩ | ⟨i, rfl, _⟩ <;> rfl
  · have hdep : (A.deeper (envOfC "is_value" (defScope sIsValue) s.heap.objs.size f cdv)).depth + 1 < recursionLimit := by
      have := hr.dp
      omega
    refine ⟨_, (pss_cons (ps_if (pt_val (pe_callB call_isi (by rfl) T.isinstance (by decide +kernel) (pa_cons (pv 0) (pa_cons (pe_bltn (v := .ty "bool") (by rfl) T.bbool (by decide +kernel) rfl) pa_nil))))
(pss_one (ps_ret pe_bl)) pss_nil)
(pss_cons (ps_if (pt_val (pe_callB call_isi (by rfl) T.isinstance (by decide +kernel) (pa_cons (pv 0) (pa_cons (pe_bltn (v := .ty "int") (by rfl) T.bint (by decide +kernel) rfl) pa_nil))))
(pss_one (ps_ret (pe_chain op_le op_le (pe_un un_neg (pe_gint rfl g4)) (pv 0) (pe_gint rfl g4)))) pss_nil)
(pss_cons (ps_if (PW.pt (pw_or (pt_not (pt_val (pe_callB call_isi (by rfl) T.isinstance (by decide +kernel) (pa_cons (pv 0) (pa_cons (pe_bltn (v := .ty "str") (by rfl) T.bstr (by decide +kernel) rfl) pa_nil))))) (pw_or1 (pt_cmpR op_gt (pe_callB call_len_str (by rfl) T.len (by decide +kernel) (pa_cons (pv 0) pa_nil)) (pe_gint rfl g5) (nomark _)))))
(pss_one (ps_ret pe_bl)) pss_nil)
(pss_one (ps_ret (pe_allD (scope := gsVal) hr rfl T.all TB (by rw [← ecd]; rfl) ⟨rfl, rfl, gsVal_cell, rfl, rfl, fun y hy e => absurd e (gsVal_free y hy)⟩ (pv 0)
  (fun hB => elt_val (X := (cxOf CX0 P w K mg base _ _ _ f cdv A outer s H E).nox) rfl hB rfl rfl rfl g1) (fun _ => rfl))))))), ?_⟩
    rcases h with ⟨z, rfl, hz, tb, q⟩ | ⟨i, rfl, q⟩
    · refine ⟨_, rfl, _, _, _, _, false, rfl, .ty _, .base (.str _), kit_ty (by decide +kernel), _, rfl, iteF ?_⟩
      refine ⟨_, rfl, _, _, _, _, false, rfl, .ty _, .base (.str _), kit_ty (by decide +kernel), _, rfl, iteF ?_⟩
      refine ⟨_, rfl, _, _, _, _, true, rfl, .ty _, .base (.str _), kit_ty (by decide +kernel), _, rfl, iteF ?_⟩
      refine ⟨_, rfl, _, rfl, smallL hz, _, _, rfl, rfl, _, rfl, ite2 (fun h => ?_) (fun h => ?_)⟩
      · have h := of_decide_eq_true h
        have e : strV z = false := by
          unfold strV
          rw [decide_eq_false (by omega), Bool.false_and]
        have := q H (Kp.refl tb)
        rw [e] at this
        exact this
      · have h : ¬ ((20 : Int) < z.length) := fun y => h (decide_eq_true y)
        have e : strV z = z.cps.toList.all mayC := by
          unfold strV
          rw [decide_eq_true (by omega), Bool.true_and]
        refine ⟨_, rfl, z, rfl, tb, fun H2 t => ?_⟩
        have := q H2 (Kp.of t)
        rw [e] at this
        exact this
    · refine ⟨_, rfl, _, _, _, _, false, rfl, .ty _, .base (.int _), kit_ty (by decide +kernel), _, rfl, iteF ?_⟩
      refine ⟨_, rfl, _, _, _, _, true, rfl, .ty _, .base (.int _), kit_ty (by decide +kernel), _, rfl, iteT ?_⟩
      refine ⟨_, rfl, _, rfl, _, _, rfl, rfl, _, rfl, ?_⟩
      refine ite2 (fun h => ?_) (fun h => ?_)
      · have h : (-99999 : Int) ≤ i := of_decide_eq_true h
        refine ⟨_, _, rfl, rfl, ?_⟩
        have e : decide (-99999 ≤ i ∧ i ≤ 99999) = decide (i ≤ 99999) := by
          by_cases h2 : i ≤ 99999
          · rw [decide_eq_true h2, decide_eq_true ⟨h, h2⟩]
          · rw [decide_eq_false h2, decide_eq_false fun z => h2 z.2]
        rw [e] at q
        exact q
      · have h : ¬ (-99999 : Int) ≤ i := fun z => h (decide_eq_true z)
        have e : decide (-99999 ≤ i ∧ i ≤ 99999) = false := decide_eq_false fun z => h z.1
        rw [e] at q
        exact q

/-! ### is_name -/
def nameB (z : Str) : Bool := decide (1 ≤ z.length ∧ z.length ≤ 6) && !(inV (.str z) (kw13.map V.str)) && z.cps.toList.all fun c => decide (c ∈ LET)
def spName (PN : Addr) : Sp := fun vs H Q _ => ∃ z : Str, vs = [.str z] ∧ z.length ≤ 5000 ∧ GxR.TabG H PN ∧ ∀ H', Kp PN H H' → Q (.bl (nameB z)) H'
theorem scNam : FnScope ["text"] ["text"] (defScope sIsName) := ⟨rfl, rfl, rfl, by decide +kernel, rfl, by decide +kernel, by decide +kernel⟩
theorem ok_name {f cN PN : Addr} {oc : Value} {od an : Option Addr} {osl : Array (Option Value)} {kV doc pm cdv ct : Value}
    (lk : K.lookup f = some ⟨oc, od, .func (PySem.W.fnOf "is_name" "is_name" (defArgs sIsName) (defBody sIsName) (defScope sIsName) .none kV doc pm an cdv ct), osl⟩)
    (hcd : PySem.W.codeIn K cdv "is_name" = true) (ecd : cdv = .ref cN) (TB : GxR.TabB base mg cN PN) (T : Txt K mg) :
    FnOk P w K mg base CX0 1 f (PySem.W.fnOf "is_name" "is_name" (defArgs sIsName) (defBody sIsName) (defScope sIsName) .none kV doc pm an cdv ct) ["text"] (spName PN) := by
  have sc := scNam
  obtain ⟨t1, g1⟩ := T.LETTERS
  obtain ⟨t4, g4⟩ := T.NAME_MOST
  obtain ⟨ra, gr, hres⟩ := T.RESERVED
  refine okC lk hcd sc (fun vs H Q E h => ?_) (fun A outer s H vs Q E hr h => ?_)
  · obtain ⟨z, rfl, _⟩ := h
    rfl
  · obtain ⟨z, rfl, hz, tb, q⟩ := h
    refine ⟨_, (pss_cons (ps_if (PW.pt (pw_or (pt_not (pt_chain op_le op_le pe_int (pe_callB call_len_str (by rfl) T.len (by decide +kernel) (pa_cons (pv 0) pa_nil)) (pe_gint rfl g4))) (pw_or1 (pt_cmpR op_in_seq (pv 0) (pe_glob (v := .ref ra) rfl gr rfl) rfl))))
(pss_one (ps_ret pe_bl)) pss_nil)
(pss_one (ps_ret (pe_allD (scope := gsNam) hr rfl T.all TB (by rw [← ecd]; rfl) ⟨rfl, rfl, gsNam_cell, rfl, rfl, fun y hy e => absurd e (gsNam_free y hy)⟩ (pv 0)
  (fun hB => elt_inSigns (X := (cxOf CX0 P w K mg base _ _ _ f cdv A outer s H E).nox) rfl hB rfl rfl rfl g1) (fun _ => rfl))))), ?_⟩
    have bad : nameB z = false → Q (.bl false) H := fun e => by
      have := q H (Kp.refl tb)
      rw [e] at this
      exact this
    have flatR : (kw13.map V.str).all flatV = true := rfl
    refine ⟨_, rfl, _, rfl, smallL hz, _, _, rfl, rfl, _, rfl, ?_⟩
    refine ite2 (fun h => ?_) (fun h => ?_)
    · have h : (1 : Int) ≤ z.length := of_decide_eq_true h
      refine ⟨_, _, rfl, rfl, _, rfl, ?_⟩
      by_cases h2 : ((z.length : Nat) : Int) ≤ 6
      · refine iteNS h2 ?_
        refine ⟨_, rfl, ra, _, rfl, .inr (hres _), rfl, flatR, _, rfl, ite2 (fun h3 => ?_) (fun h3 => ?_)⟩
        · refine bad ?_
          unfold nameB
          have h3 : inV (.str z) (kw13.map V.str) = true := h3
          rw [h3]
          simp
        · have h3 : inV (.str z) (kw13.map V.str) = false := by
            cases e : inV (.str z) (kw13.map V.str) with
            | false => rfl
            | true => exact absurd e h3
          have e : nameB z = z.cps.toList.all fun c => decide (c ∈ LET) := by
            unfold nameB
            rw [h3, decide_eq_true ⟨by omega, by omega⟩]
            rfl
          refine ⟨_, rfl, z, rfl, tb, fun H2 t => ?_⟩
          have := q H2 (Kp.of t)
          rw [e] at this
          exact this
      · show if (!decide (((z.length : Nat) : Int) ≤ 6)) = true then _ else _
        rw [decide_eq_false h2]
        refine iteT (bad ?_)
        unfold nameB
        rw [decide_eq_false (fun z => h2 (by omega))]
        rfl
    · have h : ¬ (1 : Int) ≤ z.length := fun z => h (decide_eq_true z)
      refine ⟨_, rfl, iteT (bad ?_)⟩
      unfold nameB
      rw [decide_eq_false (fun z => h (by omega))]
      rfl
end
end K1

set_option maxRecDepth 100000
set_option maxHeartbeats 4000000
namespace K1
open PySem PySem.Spec PyProof.Rows L2 GD
section
variable {P : Program} {w : World} {K : PySem.W.Frag} {mg : Str → Option Value} {base : Heap}

theorem may_eq : mayC = mayB := rfl
theorem toQ_none {r : List Nat} (h : 34 ∉ r) : toQ r = r.length := by
  unfold toQ
  have e := List.takeWhile_append_of_pos (p := fun d => d != 34) (l₁ := r) (l₂ := []) (fun c hc => bne_iff_ne.mpr fun z => h (z ▸ hc))
  rw [List.append_nil] at e
  rw [e]
  simp
theorem toQ_some {r : List Nat} {k : Nat} (h : r[k]? = some 34) (n : 34 ∉ r.take k) : toQ r = k := by
  have lt : k < r.length := (List.getElem?_eq_some_iff.mp h).1
  have e : r = r.take k ++ (34 :: r.drop (k + 1)) := by
    rw [← drop_at h, List.take_append_drop]
  unfold toQ
  have e2 := List.takeWhile_append_of_pos (p := fun d => d != 34) (l₁ := r.take k) (l₂ := 34 :: r.drop (k + 1)) (fun c hc => bne_iff_ne.mpr fun z => n (z ▸ hc))
  rw [← e] at e2
  rw [e2, List.takeWhile_cons, if_neg (by decide), List.append_nil, List.length_take]
  omega
theorem q34c : ("\"" : Str) = (⟨#[34]⟩ : Str) := rfl
theorem scStr : FnScope ["line", "at", "end"] ["line", "at"] (defScope sStringAt) := ⟨rfl, rfl, rfl, by decide +kernel, rfl, by decide +kernel, by decide +kernel⟩
theorem ok_str {f fv PT : Addr} {fd fdv : FuncData} (F : Fun K "string_at" "string_at" sStringAt f fd) (T : Txt K mg) (FV : FnOk P w K mg base CX0 2 fv fdv ["value"] (spValue PT))
    (mv : mg "is_value" = some (.ref fv)) (kv : PySem.W.keepIn K (.ref fv) = true) (bv : Binds K fdv ["value"] []) : FnOk P w K mg base CX0 3 f fd ["line", "at"] (spTok PT (· = 34)) := by
  have sc := scStr
  refine F.ok sc (fun vs H Q E h => ?_) (fun cdv A outer s H vs Q E hr h => ?_)
  · obtain ⟨L, a, c, rfl, _⟩ := h
    rfl
  · obtain ⟨L, a, c, rfl, hx, rfl, hl, tb, q⟩ := h
    have lt := lt_at hx
    refine ⟨_, (pss_cons (ps_set (i := 2) sc.nd rfl (.inl rfl) (pe_bm PySem.F.plainAttrs_str PySem.F.slot_str_find PySem.F.type_str_find mt_find3 (pv 0) (pa_cons pe_str (pa_cons (pe_op op_add (pv 1) pe_int) pa_nil))))
(pss_cons (ps_if (PW.pt (pw_or (pt_cmpR op_lt (pv 2) pe_int (nomark _)) (pw_or1 (pt_not (pt_val (pe_call FV hr (by rfl) mv kv bv .nil pass0 (pa_cons (pe_slice sl_str (pv 0) (po_some (pe_op op_add (pv 1) pe_int)) (po_some (pv 2))) pa_nil)))))))
(pss_one (ps_ret (pe_tup (pa_cons pe_non (pa_cons (pv 2) pa_nil))))) pss_nil)
(pss_one (ps_ret (pe_tup (pa_cons (pe_tup (pa_cons pe_str (pa_cons (pe_slice sl_str (pv 0) (po_some (pe_op op_add (pv 1) pe_int)) (po_some (pv 2))) pa_nil))) (pa_cons (pe_op op_add (pv 2) pe_int) pa_nil))))))), ?_⟩
    obtain ⟨r, er⟩ : ∃ r, r = L.drop (a + 1) := ⟨_, rfl⟩
    have elex : lexC 34 r = (if toQ r < r.length ∧ toQ r ≤ 20 ∧ (r.take (toQ r)).all mayB = true then some (.str (r.take (toQ r)), toQ r + 2) else none) := by
      unfold lexC
      rw [if_neg (by decide), if_neg (by decide), if_pos rfl]
    rw [← er] at q
    have e1 : (((a : Nat) : Int) + 1) = ((a + 1 : Nat) : Int) := rfl
    have bad : ∀ (H1 : Hp) (e : Int), Kp PT H H1 → lexC 34 r = none → ∀ p, H1 p = none → Q (.ref p) (upd H1 p (.tup [.non, .int e])) := fun H1 e k z p np => by
      rw [z] at q
      exact q _ p (tok_kp k tb (tok_none k.1 np))
    refine ⟨_, rfl, rfl, _, rfl, _, _, rfl, rfl, S L, ⟨#[34]⟩, ((a + 1 : Nat) : Int), rfl, rfl, ?_⟩
    rcases find_one (S L) 34 (a + 1) (by rw [S_len]; omega) with ⟨f1, f2⟩ | ⟨k, f1, f2, f3⟩
    · rw [S_toList, ← er] at f2
      rw [f1]
      refine ⟨_, rfl, _, _, rfl, rfl, _, rfl, ?_⟩
      refine iteT ⟨_, rfl, two_le, fun p np => bad H _ (Kp.refl tb) ?_ p np⟩
      rw [elex, toQ_none f2, if_neg (fun z => absurd z.1 (Nat.lt_irrefl _))]
    · rw [S_toList, ← er] at f2 f3
      rw [f1]
      have eq := toQ_some f2 f3
      have kl : k < r.length := (List.getElem?_eq_some_iff.mp f2).1
      have rl : r.length = L.length - (a + 1) := by rw [er, List.length_drop]
      have ecut : cutS (S L) (some (((a : Nat) : Int) + 1)) (some ((a + 1 + k : Nat) : Int)) = S (r.take k) := by
        rw [e1, cut_S L (a + 1) (a + 1 + k) (by omega) (by omega), ← er, Nat.add_sub_cancel_left]
      refine ⟨_, rfl, _, _, rfl, rfl, _, rfl, ?_⟩
      have n0 : ¬ (((a + 1 + k : Nat) : Int) < 0) := by omega
      show if decide (((a + 1 + k : Nat) : Int) < 0) = true then _ else _
      rw [decide_eq_false n0]
      refine iteF ⟨_, rfl, _, rfl, _, _, rfl, rfl, _, rfl, _, rfl, _, rfl, S L, rfl, by rw [S_len]; exact smallL hl, ?_⟩
      rw [ecut]
      have tl : (r.take k).length = k := by rw [List.length_take]; omega
      refine .inl ⟨S (r.take k), rfl, by rw [S_len]; omega, tb, fun H1 k1 => ?_⟩
      have ev : strV (S (r.take k)) = (decide (k ≤ 20) && (r.take k).all mayB) := by
        unfold strV
        rw [S_len, tl]
        rfl
      refine ⟨_, rfl, ?_⟩
      rw [ev]
      rw [eq] at elex
      cases hb : (decide (k ≤ 20) && (r.take k).all mayB) with
      | false =>
        refine iteT ⟨_, rfl, two_le, fun p np => bad H1 _ k1 ?_ p np⟩
        rw [elex, if_neg (fun z => ?_)]
        rw [decide_eq_true z.2.1, z.2.2] at hb
        cases hb
      | true =>
        rw [Bool.and_eq_true] at hb
        have hk := of_decide_eq_true hb.1
        rw [if_pos ⟨kl, hk, hb.2⟩] at elex
        rw [elex] at q
        refine iteF ⟨_, rfl, _, rfl, _, _, rfl, rfl, _, rfl, _, rfl, _, rfl, S L, rfl, by rw [S_len]; exact smallL hl, ?_⟩
        rw [ecut]
        refine ⟨two_le, fun u nu => ⟨_, rfl, _, _, rfl, rfl, two_le, fun p np => ?_⟩⟩
        have en : (((a + 1 + k : Nat) : Int) + 1) = ((a + (k + 2) : Nat) : Int) := by omega
        show Q (.ref p) (upd _ p (.tup [.ref u, .int (((a + 1 + k : Nat) : Int) + 1)]))
        rw [en]
        exact q _ p (tok_kp k1 tb (tok_some k1.1 nu np))
end
end K1

set_option maxRecDepth 100000
set_option maxHeartbeats 4000000
namespace K1
open PySem PySem.Spec PyProof.Rows L2 GD
section
variable {P : Program} {w : World} {K : PySem.W.Frag} {mg : Str → Option Value} {base : Heap}

/-! ### token_at -/
theorem scTokA : FnScope ["line", "at", "first"] ["line", "at"] (defScope sTokenAt) := ⟨rfl, rfl, rfl, by decide +kernel, rfl, by decide +kernel, by decide +kernel⟩
theorem ok_tokat {f f1 f2 f3 PT : Addr} {fd fd1 fd2 fd3 : FuncData} (F : Fun K "token_at" "token_at" sTokenAt f fd) (T : Txt K mg)
    (F1 : FnOk P w K mg base CX0 3 f1 fd1 ["line", "at"] (spTok PT (· ∈ LET))) (m1 : mg "word_at" = some (.ref f1)) (k1 : PySem.W.keepIn K (.ref f1) = true) (b1 : Binds K fd1 ["line", "at"] [])
    (F2 : FnOk P w K mg base CX0 3 f2 fd2 ["line", "at"] (spTok PT (· ∈ DIG))) (m2 : mg "number_at" = some (.ref f2)) (k2 : PySem.W.keepIn K (.ref f2) = true) (b2 : Binds K fd2 ["line", "at"] [])
    (F3 : FnOk P w K mg base CX0 3 f3 fd3 ["line", "at"] (spTok PT (· = 34))) (m3 : mg "string_at" = some (.ref f3)) (k3 : PySem.W.keepIn K (.ref f3) = true) (b3 : Binds K fd3 ["line", "at"] []) :
    FnOk P w K mg base CX0 4 f fd ["line", "at"] (spTok PT fun _ => True) := by
  have sc := scTokA
  obtain ⟨t1, g1⟩ := T.LETTERS
  obtain ⟨t2, g2⟩ := T.DIGITS
  obtain ⟨t3, g3⟩ := T.SIGNS
  refine F.ok sc (fun vs H Q E h => ?_) (fun cdv A outer s H vs Q E hr h => ?_)
  · obtain ⟨L, a, c, rfl, _⟩ := h
    rfl
  · obtain ⟨L, a, c, rfl, hx, _, hl, tb, q⟩ := h
    have lt := lt_at hx
    refine ⟨_, (pss_cons (ps_set (i := 2) sc.nd rfl (.inl rfl) (pe_item_str (pv 0) (pv 1) (fun _ _ => rfl)))
(pss_cons (ps_if (pt_cmpR op_in_sign (pv 2) (pe_gstr rfl g1) rfl)
(pss_one (ps_ret (pe_call F1 hr (by rfl) m1 k1 b1 .nil pass0 (pa_cons (pv 0) (pa_cons (pv 1) pa_nil))))) pss_nil)
(pss_cons (ps_if (pt_cmpR op_in_sign (pv 2) (pe_gstr rfl g2) rfl)
(pss_one (ps_ret (pe_call F2 hr (by rfl) m2 k2 b2 .nil pass0 (pa_cons (pv 0) (pa_cons (pv 1) pa_nil))))) pss_nil)
(pss_cons (ps_if (pt_cmpR op_eq (pv 2) pe_str (nomark _))
(pss_one (ps_ret (pe_call F3 hr (by rfl) m3 k3 b3 .nil pass0 (pa_cons (pv 0) (pa_cons (pv 1) pa_nil))))) pss_nil)
(pss_cons (ps_if (pt_cmpR op_in_sign (pv 2) (pe_gstr rfl g3) rfl)
(pss_one (ps_ret (pe_tup (pa_cons (pe_tup (pa_cons pe_str (pa_cons (pv 2) pa_nil))) (pa_cons (pe_op op_add (pv 1) pe_int) pa_nil))))) pss_nil)
(pss_one (ps_ret (pe_tup (pa_cons pe_non (pa_cons (pv 1) pa_nil)))))))))), ?_⟩
    refine ⟨_, rfl, _, rfl, _, _, c, rfl, rfl, by omega, in63 hl lt, in_S lt, item_S hx, ?_⟩
    refine ⟨_, rfl, c, _, rfl, rfl, _, rfl, ite2 (fun h => ?_) (fun h => ?_)⟩
    · exact ⟨_, rfl, _, rfl, L, a, c, rfl, hx, of_decide_eq_true h, hl, tb, q⟩
    have n1 : c ∉ LET := fun z => h (decide_eq_true z)
    refine ⟨_, rfl, c, _, rfl, rfl, _, rfl, ite2 (fun h => ?_) (fun h => ?_)⟩
    · exact ⟨_, rfl, _, rfl, L, a, c, rfl, hx, of_decide_eq_true h, hl, tb, q⟩
    have n2 : c ∉ DIG := fun z => h (decide_eq_true z)
    refine ⟨_, rfl, rfl, _, rfl, ite2 (fun h => ?_) (fun h => ?_)⟩
    · have e : c = 34 := by
        have h := of_decide_eq_true h
        injection h with h
        have h2 : [c] = [34] := congrArg (fun z : Str => z.cps.toList) h
        exact (List.cons.inj h2).1
      exact ⟨_, rfl, _, rfl, L, a, c, rfl, hx, e, hl, tb, q⟩
    have n3 : c ≠ 34 := fun z => h (decide_eq_true (by rw [z]; rfl))
    have elex : lexC c (L.drop (a + 1)) = (if c ∈ SGN then some (.sign c, 1) else none) := by
      unfold lexC
      rw [if_neg n1, if_neg n2, if_neg n3]
    refine ⟨_, rfl, c, _, rfl, rfl, _, rfl, ite2 (fun h => ?_) (fun h => ?_)⟩
    · have hs : c ∈ SGN := of_decide_eq_true h
      rw [if_pos hs] at elex
      rw [elex] at q
      exact ⟨_, rfl, two_le, fun u nu => ⟨_, rfl, _, _, rfl, rfl, two_le, fun p np => q _ p (tok_some (t := .sign c) (k := 1) tb nu np)⟩⟩
    · have hs : c ∉ SGN := fun z => h (decide_eq_true z)
      rw [if_neg hs] at elex
      rw [elex] at q
      exact ⟨_, rfl, two_le, fun p np => q _ p (tok_none tb np)⟩

theorem lexC_le {c : Nat} {r : List Nat} {t : Tok} {k : Nat} (h : lexC c r = some (t, k)) : k ≤ r.length + 1 := by
  unfold lexC at h
  by_cases h1 : c ∈ LET
  · rw [if_pos h1] at h
    split at h
    · cases h
      exact run_le _ _
    · cases h
  rw [if_neg h1] at h
  by_cases h2 : c ∈ DIG
  · rw [if_pos h2] at h
    split at h
    · cases h
      exact run_le _ _
    · cases h
  rw [if_neg h2] at h
  by_cases h3 : c = 34
  · rw [if_pos h3] at h
    split at h
    · rename_i hk
      cases h
      omega
    · cases h
  rw [if_neg h3] at h
  split at h
  · cases h
    omega
  · cases h
/-! ### split -/
def TokL (H : Hp) : List V → List Tok → Prop := Paired fun v t => ∃ q, v = .ref q ∧ H q = some (.tup (tokV t))
theorem TokL.imp {H H' : Hp} {vs : List V} {ts : List Tok} (h : TokL H vs ts) (k : ∀ q t, H q = some (.tup (tokV t)) → H' q = some (.tup (tokV t))) : TokL H' vs ts :=
  Paired.mapP h fun v t ⟨q, e, h⟩ => ⟨q, e, k q t h⟩
theorem tup_ne_tab {P q : Addr} {H : Hp} {xs : List V} (t : GxR.TabG H P) (h : H q = some (.tup xs)) : q ≠ P := fun e => by
  obtain ⟨ps, h2, _⟩ := t
  rw [e, h2] at h
  cases h
theorem TokL.kp {P : Addr} {H H' : Hp} {vs : List V} {ts : List Tok} (h : TokL H vs ts) (t : GxR.TabG H P) (k : Kp P H H') : TokL H' vs ts :=
  h.imp fun q u e => k.2 q _ (tup_ne_tab t e) e
theorem Paired.snoc {α β : Type} {R : α → β → Prop} : ∀ {l : List α} {m : List β} {a : α} {b : β}, Paired R l m → R a b → Paired R (l ++ [a]) (m ++ [b])
  | _, _, _, _, .nil, r => .cons r .nil
  | _, _, _, _, .cons x t, r => .cons x (Paired.snoc t r)
def spSplit (PT : Addr) : Sp := fun vs H Q _ => ∃ (L : List Nat) (o : Option (List Tok)), vs = [.str (S L)] ∧ L.length ≤ 5000 ∧ GxR.TabG H PT ∧ Lex L o ∧
  ∀ H', Kp PT H H' → (o = none → Q .non H') ∧ ∀ ts D vs, o = some ts → H D = none → H' D = some (.lst vs) → TokL H' vs ts → Q (.ref D) H'
theorem scSpl : FnScope ["line", "tokens", "at", "token"] ["line"] (defScope sSplit) := ⟨rfl, rfl, rfl, by decide +kernel, rfl, by decide +kernel, by decide +kernel⟩
theorem ok_split {f f1 PT : Addr} {fd fd1 : FuncData} (F : Fun K "split" "split" sSplit f fd) (T : Txt K mg)
    (F1 : FnOk P w K mg base CX0 4 f1 fd1 ["line", "at"] (spTok PT fun _ => True)) (m1 : mg "token_at" = some (.ref f1)) (k1 : PySem.W.keepIn K (.ref f1) = true) (b1 : Binds K fd1 ["line", "at"] []) :
    FnOk P w K mg base CX0 5 f fd ["line"] (spSplit PT) := by
  have sc := scSpl
  refine F.ok sc (fun vs H Q E h => ?_) (fun cdv A outer s H vs Q E hr h => ?_)
  · obtain ⟨L, o, rfl, _⟩ := h
    rfl
  · obtain ⟨L, o, rfl, hl, tb, hx, q⟩ := h
    refine ⟨_, (pss_cons (ps_set (i := 1) sc.nd rfl (.inl rfl) (pe_lst pa_nil))
(pss_cons (ps_set (i := 2) sc.nd rfl (.inl rfl) pe_int)
(pss_cons (ps_while PassesOwn.never (pt_cmpR op_lt (pv 2) (pe_callB call_len_str (by rfl) T.len (by decide +kernel) (pa_cons (pv 0) pa_nil)) (nomark _))
(pss_cons (ps_if (pt_cmpR op_eq (pe_item_str (pv 0) (pv 2) (fun _ _ => rfl)) pe_str (nomark _))
(pss_cons (ps_aug (i := 2) sc.nd rfl (.inl rfl) pe_int ip_add)
(pss_one ps_continue)) pss_nil)
(pss_cons (ps_asg (pe_call F1 hr (by rfl) m1 k1 b1 .nil pass0 (pa_cons (pv 0) (pa_cons (pv 2) pa_nil))) (pg_tup rfl (pgs_cons (pg_name (i := 3) sc.nd rfl (.inl rfl)) (pgs_cons (pg_name (i := 2) sc.nd rfl (.inl rfl)) pgs_nil))))
(pss_cons (ps_if (pt_cmpR op_isN (pv 3) pe_non (nomark _))
(pss_one (ps_ret pe_non)) pss_nil)
(pss_one (ps_expr (pe_bm PySem.F.plainAttrs_list PySem.F.slot_list_append PySem.F.type_list_append mt_append (pv 1) (pa_cons (pv 3) pa_nil))))))))
(pss_one (ps_ret (pv 1)))))), ?_⟩
    refine ⟨Nat.zero_le _, fun D hD => ?_⟩
    have kD : Kp PT H (upd H D (.lst [])) := Same.kp (Same.lst (Same.refl H) hD) tb
    have nDP : D ≠ PT := TabG.ne tb hD
    refine ⟨fun m σ H' => ∃ (e : Nat) (ts : List Tok) (vs : List V) (y3 : Option V) (o' : Option (List Tok)), σ = [some (.str (S L)), some (.ref D), some (.int (e : Nat)), y3] ∧ Kp PT H H' ∧ H' D = some (.lst vs) ∧ TokL H' vs ts ∧
        e ≤ L.length ∧ m = L.length - e ∧ Lex (L.drop e) o' ∧ o = o'.map (ts ++ ·) ∧ ts.length ≤ e ∧ vs.length = ts.length, ⟨_, 0, [], [], none, o, rfl, kD, upd_same, .nil, Nat.zero_le _, rfl, hx, by cases o <;> rfl, Nat.le_refl _, rfl⟩, ?_⟩
    rintro m σ H' ⟨e, ts, vs, y3, o', rfl, kp, eD, tl, he, rfl, hx', eo, lts, lvs⟩
    refine ⟨_, rfl, _, rfl, _, rfl, by rw [S_len]; exact smallL hl, _, _, rfl, rfl, _, rfl, ite2 (fun h => ?_) (fun h => ?_)⟩
    · have lt : e < L.length := by
        have := of_decide_eq_true h
        rw [S_len] at this
        omega
      obtain ⟨c, hc⟩ : ∃ c, L[e]? = some c := ⟨_, List.getElem?_eq_getElem lt⟩
      rw [drop_at hc] at hx'
      refine ⟨fun σ' H2 => ∃ (e2 : Nat) (ts : List Tok) (vs : List V) (y3 : Option V) (o' : Option (List Tok)), σ' = [some (.str (S L)), some (.ref D), some (.int (e2 : Nat)), y3] ∧ Kp PT H H2 ∧ H2 D = some (.lst vs) ∧ TokL H2 vs ts ∧
        e < e2 ∧ e2 ≤ L.length ∧ Lex (L.drop e2) o' ∧ o = o'.map (ts ++ ·) ∧ ts.length ≤ e2 ∧ vs.length = ts.length, fun σ' H2 hN => ?_, ?_⟩
      · obtain ⟨e2, ts, vs, y3, o', h1, h2, h3, h4, h5, h6, h7, h8, h9, h10⟩ := hN
        exact ⟨L.length - e2, by omega, e2, ts, vs, y3, o', h1, h2, h3, h4, h6, rfl, h7, h8, h9, h10⟩
      refine ⟨_, rfl, _, rfl, _, _, c, rfl, rfl, by omega, in63 hl lt, in_S lt, item_S hc, rfl, _, rfl, ite2 (fun h => ?_) (fun h => ?_)⟩
      · have ec : c = 32 := by
          have h := of_decide_eq_true h
          injection h with h
          have h2 : [c] = [32] := congrArg (fun z : Str => z.cps.toList) h
          exact (List.cons.inj h2).1
        subst ec
        have hr' : Lex (L.drop (e + 1)) o' := by
          cases hx' with
          | sp h => exact h
          | bad n _ => exact absurd rfl n
          | tok n _ _ => exact absurd rfl n
        exact ⟨_, rfl, _, _, rfl, rfl, e + 1, ts, vs, y3, o', rfl, kp, eD, tl, Nat.lt_succ_self _, lt, hr', eo, by omega, lvs⟩
      · have nc : c ≠ 32 := fun z => h (decide_eq_true (by rw [z]; rfl))
        refine ⟨_, rfl, _, rfl, L, e, c, rfl, hc, trivial, hl, kp.1, fun H2 p r => ?_⟩
        obtain ⟨k2, np, r1, r2⟩ := r
        cases hlx : lexC c (L.drop (e + 1)) with
        | none =>
          obtain ⟨e9, h9⟩ := r1 hlx
          have en : o = none := by
            rw [eo]
            cases hx' with
            | sp h => exact absurd rfl nc
            | bad _ _ => rfl
            | tok _ h9 _ =>
              rw [hlx] at h9
              cases h9
          refine ⟨p, _, rfl, .inl (.inl h9), rfl, _, _, rfl, _, _, rfl, rfl, ?_⟩
          refine ⟨_, rfl, rfl, _, rfl, iteT ?_⟩
          exact (q H2 (kp.trans k2)).1 en
        | some tk =>
          obtain ⟨t, k⟩ := tk
          obtain ⟨u, nu, h9, h10⟩ := r2 t k hlx
          obtain ⟨o2, hx2, eo2⟩ : ∃ o2, Lex ((c :: L.drop (e + 1)).drop k) o2 ∧ o' = o2.map (t :: ·) := by
            cases hx' with
            | sp h => exact absurd rfl nc
            | bad _ h11 =>
              rw [hlx] at h11
              cases h11
            | tok _ h11 h12 =>
              rw [hlx] at h11
              cases h11
              exact ⟨_, h12, rfl⟩
          have kpos := lexC_pos hlx
          refine ⟨p, _, rfl, .inl (.inl h9), rfl, _, _, rfl, _, _, rfl, rfl, ?_⟩
          refine ⟨_, rfl, rfl, _, rfl, iteF ?_⟩
          have eD2 : H2 D = some (.lst vs) := k2.2 D _ nDP eD
          refine ⟨_, rfl, .inl ⟨rfl, _, SqL.of eD2⟩, _, rfl, D, _, _, rfl, rfl, eD2, ?_, ?_⟩
          · rw [lvs]
            exact Nat.lt_of_le_of_lt (Nat.le_trans (Nat.le_trans lts he) hl) (by decide)
          · have kle := lexC_le hlx
            have rl : (L.drop (e + 1)).length = L.length - (e + 1) := List.length_drop
            have ed : (c :: L.drop (e + 1)).drop k = L.drop (e + k) := by
              rw [← drop_at hc, List.drop_drop]
            rw [ed] at hx2
            refine ⟨e + k, ts ++ [t], vs ++ [.ref u], _, o2, rfl, ⟨?_, fun b ob n hb => ?_⟩, upd_same, ?_, by omega, by omega, hx2, ?_, ?_, ?_⟩
            · obtain ⟨ps, h1, h2⟩ := k2.1
              exact ⟨ps, by rw [upd_ne nDP.symm]; exact h1, h2⟩
            · rw [upd_ne (ne_of_none hb hD)]
              exact (kp.trans k2).2 b ob n hb
            · refine Paired.snoc ((tl.kp kp.1 k2).imp fun q t hq => ?_) ⟨u, rfl, ?_⟩
              · rw [upd_ne (ne_of hq eD2 (fun z => by cases z))]
                exact hq
              · rw [upd_ne (ne_of h10 eD2 (fun z => by cases z))]
                exact h10
            · rw [eo, eo2]
              cases o2 with
              | none => rfl
              | some x =>
                show some (ts ++ (t :: x)) = some ((ts ++ [t]) ++ x)
                rw [List.append_assoc]
                rfl
            · rw [List.length_append, List.length_singleton]
              omega
            · rw [List.length_append, List.length_append, lvs]
              rfl
    · have ge : e = L.length := by
        have : ¬ ((e : Int) < (S L).length) := fun z => h (decide_eq_true z)
        rw [S_len] at this
        omega
      rw [ge, List.drop_length] at hx'
      have eo' : o = some ts := by
        cases hx'
        rw [eo]
        show some (ts ++ []) = some ts
        rw [List.append_nil]
      exact ⟨_, rfl, (q H' kp).2 ts D vs eo' hD eD tl⟩
end
end K1

set_option maxRecDepth 100000
set_option maxHeartbeats 4000000
namespace K1
open PySem PySem.Spec PyProof.Rows L2 GD
/-! ### tokens as data -/
def tokD : Tok → PyData
  | .word l => .tuple [.str "word", .str (S l)]
  | .num n => .tuple [.str "number", .int (n : Nat)]
  | .str l => .tuple [.str "string", .str (S l)]
  | .sign c => .tuple [.str "sign", .str (S [c])]
theorem tokD_dp {K : PySem.W.Frag} {H : Hp} {q : Addr} {t : Tok} (h : H q = some (.tup (tokV t))) : Dp K H (.ref q) (tokD t) := by
  cases t with
  | word l => exact .tup (SqT.of h) (.cons (.str _) (.cons (.str _) .nil))
  | num n => exact .tup (SqT.of h) (.cons (.str _) (.cons (.int _) .nil))
  | str l => exact .tup (SqT.of h) (.cons (.str _) (.cons (.str _) .nil))
  | sign c => exact .tup (SqT.of h) (.cons (.str _) (.cons (.str _) .nil))
theorem toksD_dp {K : PySem.W.Frag} {H : Hp} {D : Addr} {vs : List V} {ts : List Tok} (h : H D = some (.lst vs)) (t : TokL H vs ts) : Dp K H (.ref D) (.list (ts.map tokD)) := by
  refine .lst (SqL.of h) ?_
  induction t with
  | nil => exact .nil
  | @cons v u vs ts r t ih =>
    obtain ⟨q, rfl, hq⟩ := r
    refine .cons (tokD_dp hq) ?_
    have : ∀ {vs ts}, TokL H vs ts → DpAll K H vs (ts.map tokD) := fun {vs ts} t => by
      induction t with
      | nil => exact .nil
      | @cons v u vs ts r t ih =>
        obtain ⟨q, rfl, hq⟩ := r
        exact .cons (tokD_dp hq) ih
    exact this t
end K1

set_option maxRecDepth 100000
set_option maxHeartbeats 4000000
namespace K1
open PySem PySem.Spec PyProof.Rows L2 GD
/-! ### the box -/
def Bx (b : Addr) (H H' : Hp) : Prop := ∀ c o, c ≠ b → H c = some o → H' c = some o
theorem Bx.refl (b : Addr) (H : Hp) : Bx b H H := fun _ _ _ h => h
theorem Bx.trans {b : Addr} {H H1 H2 : Hp} (x : Bx b H H1) (y : Bx b H1 H2) : Bx b H H2 := fun c o n h => y c o n (x c o n h)
theorem Bx.same {b : Addr} {H H' : Hp} (s : Same H H') : Bx b H H' := fun c o _ h => s c o h
theorem Box.draw {H : Hp} {b d : Addr} {ds : List Int} {n : Nat} (x : Box H b d ds n) : Box (upd H b (.lst [.ref d, .int ((n + 1 : Nat) : Int)])) b d ds (n + 1) :=
  ⟨upd_same, by rw [upd_ne x.ne]; exact x.2.1, x.2.2⟩
theorem Bx.draw {H : Hp} {b : Addr} {o : HO} : Bx b H (upd H b o) := fun c u n h => by rw [upd_ne n]; exact h
theorem Box.new {H : Hp} {b d l : Addr} {ds : List Int} {n : Nat} {o : HO} (x : Box H b d ds n) (h : H l = none) : Box (upd H l o) b d ds n :=
  ⟨by rw [upd_ne (ne_of_none x.1 h)]; exact x.1, by rw [upd_ne (ne_of_none x.2.1 h)]; exact x.2.1, x.2.2⟩
theorem Bx.new {H : Hp} {b l : Addr} {o : HO} (h : H l = none) : Bx b H (upd H l o) := Bx.same (Same.lst (Same.refl H) h)
theorem Bx.free {b c d : Addr} {H H' : Hp} {ds : List Int} {n : Nat} (x : Bx b H H') (y : Box H b d ds n) (y' : Box H' b d ds n ∨ H' b ≠ none) (h : H' c = none) : H c = none := by
  cases e : H c with
  | none => rfl
  | some o =>
    by_cases z : c = b
    · subst z
      rcases y' with y' | y'
      · rw [y'.1] at h
        cases h
      · exact absurd h y'
    · rw [x c o z e] at h
      cases h

/-- draws and new objects -/
structure Bs (b d : Addr) (ds : List Int) (H H' : Hp) (n : Nat) : Prop where
  bx : Bx b H H'
  box : Box H' b d ds n
  free : ∀ c, H' c = none → H c = none
theorem Bs.refl {b d : Addr} {ds : List Int} {H : Hp} {n : Nat} (h : Box H b d ds n) : Bs b d ds H H n := ⟨Bx.refl _ _, h, fun _ z => z⟩
theorem Bs.draw {b d : Addr} {ds : List Int} {H H' : Hp} {n : Nat} (h : Bs b d ds H H' n) : Bs b d ds H (upd H' b (.lst [.ref d, .int ((n + 1 : Nat) : Int)])) (n + 1) :=
  ⟨h.bx.trans Bx.draw, h.box.draw, fun c z => h.free c (by
    by_cases e : c = b
    · rw [e, upd_same] at z
      cases z
    · rw [upd_ne e] at z
      exact z)⟩
theorem Bs.new {b d l : Addr} {ds : List Int} {H H' : Hp} {n : Nat} {o : HO} (h : Bs b d ds H H' n) (nl : H' l = none) : Bs b d ds H (upd H' l o) n :=
  ⟨h.bx.trans (Bx.new nl), h.box.new nl, fun c z => h.free c (by
    by_cases e : c = l
    · rw [e]
      exact nl
    · rw [upd_ne e] at z
      exact z)⟩
theorem Bs.trans {b d : Addr} {ds : List Int} {H H1 H2 : Hp} {n m : Nat} (x : Bs b d ds H H1 n) (y : Bs b d ds H1 H2 m) : Bs b d ds H H2 m :=
  ⟨x.bx.trans y.bx, y.box, fun c z => x.free c (y.free c z)⟩
theorem Bs.nb {b d l : Addr} {ds : List Int} {H H' : Hp} {n : Nat} (h : Bs b d ds H H' n) (nl : H' l = none) : l ≠ b := fun z => by rw [z, h.box.1] at nl; cases nl
theorem idx {m : Nat} {r : Int} (h0 : 0 ≤ r) (h1 : r < (m : Int)) : ∃ j : Nat, r = (j : Int) ∧ j < m := ⟨r.toNat, by omega, by omega⟩
theorem le9 {n : Nat} (h : n ≤ 100) : n ≤ sizeLine := Nat.le_trans h (by decide)
end K1

set_option maxRecDepth 100000
set_option maxHeartbeats 4000000
/-! the mathematics of law k02: a mirror of the parser over lists of tokens, no Python -/
namespace K2
open PySem hiding Tok
open K1

inductive Tr where
  | num (n : Nat) | str (l : List Nat) | name (l : List Nat) | call (f : List Nat) (as : List Tr) | ite (a b c : Tr)
  | set (x : List Nat) (t : Tr) | seq (a b : Tr) | op (c : Nat) (a b : Tr)
mutual
def hgt : Tr → Nat
  | .num _ => 1
  | .str _ => 1
  | .name _ => 1
  | .call _ as => 1 + hgtL as
  | .ite a b c => 1 + max (hgt a) (max (hgt b) (hgt c))
  | .set _ t => 1 + hgt t
  | .seq a b => 1 + max (hgt a) (hgt b)
  | .op _ a b => 1 + max (hgt a) (hgt b)
def hgtL : List Tr → Nat
  | [] => 0
  | t :: ts => max (hgt t) (hgtL ts)
end
def bd (t : Tr) : Option Tr := if hgt t ≤ 12 then some t else none
def code (s : Str) : List Nat := s.cps.toList
def wIf : List Nat := code "if"
def wThen : List Nat := code "then"
def wElse : List Nat := code "else"
def wSet : List Nat := code "set"
def kwL : List (List Nat) := (["import", "export", "let", "keep", "fn", "do", "hold", "if", "then", "else", "set", "from", "as"] : List Str).map code
def nmB (l : List Nat) : Bool := decide (1 ≤ l.length ∧ l.length ≤ 6) && !(kwL.contains l) && l.all fun c => decide (c ∈ LET)

abbrev PR := List Tok → Option (Tr × List Tok)
def many (w : PR) (sep : Nat) : Nat → List Tok → Option (List Tr × List Tok)
  | 0, _ => none
  | m + 1, ts => match w ts with
    | none => none
    | some (t, .sign c :: r) => if c = sep then (match many w sep m r with
      | none => none
      | some (l, r2) => some (t :: l, r2)) else some ([t], .sign c :: r)
    | some (t, r) => some ([t], r)
def opLoop (x : PR) (cs : List Nat) : Nat → Tr → List Tok → Option (Tr × List Tok)
  | 0, _, _ => none
  | m + 1, t, .sign c :: r => if c ∈ cs then (match x r with
    | none => none
    | some (u, r2) => if hgt (.op c t u) ≤ 12 then opLoop x cs m (.op c t u) r2 else none) else some (t, .sign c :: r)
  | _ + 1, t, r => some (t, r)
def parens (w : PR) (sep : Nat) (ts : List Tok) : Option (List Tr × List Tok) := match many w sep (ts.length + 1) ts with
  | some (l, .sign 41 :: r) => some (l, r)
  | _ => none
def foldSeq : List Tr → Option Tr
  | [] => none
  | [t] => some t
  | t :: l => match foldSeq l with
    | none => none
    | some u => bd (.seq t u)
def atomP (ok : Bool) (w : PR) : PR
  | .sign 40 :: r => if ok then (match parens w 59 r with
    | none => none
    | some (l, r2) => (foldSeq l).map fun t => (t, r2)) else none
  | .num n :: r => some (.num n, r)
  | .str l :: r => some (.str l, r)
  | .word l :: .sign 40 :: .sign 41 :: r => if nmB l && ok then some (.call l [], r) else none
  | .word l :: .sign 40 :: r => if nmB l && ok then (match parens w 44 r with
    | none => none
    | some (as, r2) => (bd (.call l as)).map fun t => (t, r2)) else none
  | .word l :: r => if nmB l then some (.name l, r) else none
  | _ => none
def mulP (a : PR) : PR := fun ts => match a ts with
  | none => none
  | some (t, r) => opLoop a [42] (r.length + 1) t r
def addP (a : PR) : PR := fun ts => match mulP a ts with
  | none => none
  | some (t, r) => opLoop (mulP a) [43, 45] (r.length + 1) t r
def cmpP (a : PR) : PR := fun ts => match addP a ts with
  | none => none
  | some (t, .sign c :: r) => if c = 61 ∨ c = 60 then (match addP a r with
    | none => none
    | some (u, r2) => (bd (.op c t u)).map fun t => (t, r2)) else some (t, .sign c :: r)
  | some (t, r) => some (t, r)
def afterW (x : List Nat) (f : PR) : PR
  | .word y :: r => if y = x then f r else none
  | _ => none
def iteP (wb : PR) : PR := fun ts => match wb ts with
  | none => none
  | some (a, r) => afterW wThen (fun r => match wb r with
    | none => none
    | some (b, r) => afterW wElse (fun r => match wb r with
      | none => none
      | some (c, r) => (bd (.ite a b c)).map fun t => (t, r)) r) r
def setP (wb : PR) : PR
  | .word x :: .sign 61 :: r => if nmB x then (match wb r with
    | none => none
    | some (t, r) => (bd (.set x t)).map fun t => (t, r)) else none
  | _ => none
def wholeP (wb : PR) (a : PR) : PR
  | .word w :: r => if w = wIf then iteP wb r else if w = wSet then setP wb r else cmpP a (.word w :: r)
  | ts => cmpP a ts
def fail : PR := fun _ => none
def P : Nat → Nat → Nat → PR
  | 0, _, _ => fail
  | n + 1, d, b => wholeP (if b + 1 < 12 then P n d (b + 1) else fail) (atomP (decide (d + 1 ≤ 10)) (P n (d + 1) b))
def parseM (ts : List Tok) : Option Tr := match P 30 0 0 ts with
  | some (t, []) => some t
  | _ => none

/-! ### what is accepted: ends where an expression may end, parentheses in balance, no two atoms side by side -/
def isStart : Tok → Bool
  | .num _ => true
  | .str _ => true
  | .word l => nmB l
  | .sign _ => false
def isEnd : Tok → Bool
  | .sign c => c == 41
  | t => isStart t
def bal1 : Tok → Int
  | .sign 40 => 1
  | .sign 41 => -1
  | _ => 0
def bal (l : List Tok) : Int := (l.map bal1).sum
def adj : List Tok → Bool
  | x :: y :: r => !(isEnd x && isStart y) && adj (y :: r)
  | _ => true
def fin (l : List Tok) : Bool := match l.getLast? with
  | some x => isEnd x
  | none => false
structure Gd (w : List Tok) : Prop where
  ne : fin w = true
  b : bal w = 0
  a : adj w = true
theorem bal_app (a b : List Tok) : bal (a ++ b) = bal a + bal b := by unfold bal; rw [List.map_append, List.sum_append]
theorem bal_cons (x : Tok) (b : List Tok) : bal (x :: b) = bal1 x + bal b := by unfold bal; rw [List.map_cons, List.sum_cons]
theorem adj_app : ∀ {a b : List Tok}, adj a = true → adj b = true → (∀ x y r, a.getLast? = some x → b = y :: r → (isEnd x && isStart y) = false) → adj (a ++ b) = true
  | [], b, _, hb, _ => hb
  | [x], b, _, hb, h => by
    cases b with
    | nil => rfl
    | cons y r =>
      show (!(isEnd x && isStart y) && adj (y :: r)) = true
      rw [h x y r rfl rfl, hb]
      rfl
  | x :: y :: a, b, ha, hb, h => by
    have ha : (!(isEnd x && isStart y) && adj (y :: a)) = true := ha
    rw [Bool.and_eq_true] at ha
    show (!(isEnd x && isStart y) && adj (y :: a ++ b)) = true
    rw [ha.1, adj_app ha.2 hb (fun u v r h1 h2 => h u v r (by rw [List.getLast?_cons_cons]; exact h1) h2)]
    rfl
theorem fin_app {a b : List Tok} (h : fin b = true) : fin (a ++ b) = true := by
  unfold fin at h ⊢
  rw [List.getLast?_append]
  cases e : b.getLast? with
  | none => rw [e] at h; cases h
  | some x => rw [e] at h; exact h
/-- two that are accepted, with what starts nothing and ends nothing between them -/
theorem Gd.mid {a m b : List Tok} (ga : Gd a) (gb : Gd b) (hm : m ≠ []) (h1 : ∀ x ∈ m, isStart x = false) (h2 : ∀ x ∈ m, isEnd x = false) (h3 : ∀ x ∈ m, bal1 x = 0) : Gd (a ++ (m ++ b)) := by
  have am : ∀ m : List Tok, (∀ x ∈ m, isStart x = false) → adj m = true := fun m => by
    induction m with
    | nil => exact fun _ => rfl
    | cons x m ih =>
      intro h
      cases m with
      | nil => rfl
      | cons y r =>
        show (!(isEnd x && isStart y) && adj (y :: r)) = true
        rw [h y (by simp), ih (fun z hz => h z (List.mem_cons_of_mem _ hz)), Bool.and_false]
        rfl
  have bm : bal m = 0 := by
    unfold bal
    have : ∀ m : List Tok, (∀ x ∈ m, bal1 x = 0) → (m.map bal1).sum = 0 := fun m => by
      induction m with
      | nil => exact fun _ => rfl
      | cons x m ih => intro h; rw [List.map_cons, List.sum_cons, h x List.mem_cons_self, ih (fun z hz => h z (List.mem_cons_of_mem _ hz))]; rfl
    exact this m h3
  refine ⟨fin_app (fin_app gb.ne), ?_, ?_⟩
  · rw [bal_app, bal_app, ga.b, gb.b, bm]
    rfl
  · refine adj_app ga.a (adj_app (am m h1) gb.a fun x y r e1 _ => ?_) fun x y r _ e2 => ?_
    · rw [h2 x (List.mem_of_getLast? e1)]
      rfl
    · cases m with
      | nil => exact absurd rfl hm
      | cons z' m =>
        cases e2
        rw [h1 _ List.mem_cons_self, Bool.and_false]
theorem Gd.pre {m b : List Tok} (gb : Gd b) (h0 : adj m = true) (h2 : ∀ x, m.getLast? = some x → isEnd x = false) (h3 : bal m = 0) : Gd (m ++ b) := by
  refine ⟨fin_app gb.ne, ?_, adj_app h0 gb.a fun x y r e1 _ => ?_⟩
  · rw [bal_app, gb.b, h3]
    rfl
  · rw [h2 x e1]
    rfl
/-- in parentheses -/
theorem Gd.par {a b : List Tok} (gb : Gd b) (h0 : adj a = true) (h3 : bal a = 0) : Gd (a ++ (.sign 40 :: (b ++ [.sign 41]))) := by
  refine ⟨fin_app (by show fin ([Tok.sign 40] ++ (b ++ [.sign 41])) = true; exact fin_app (fin_app rfl)), ?_, ?_⟩
  · rw [bal_app, bal_cons, bal_app, gb.b, h3]
    rfl
  · refine adj_app h0 ?_ fun x y r _ e => ?_
    · show adj ([Tok.sign 40] ++ (b ++ [.sign 41])) = true
      refine adj_app rfl (adj_app gb.a rfl fun x y r _ e => ?_) fun x y r e _ => ?_
      · cases e
        exact Bool.and_false _
      · cases e
        rfl
    · cases e
      exact Bool.and_false _
def Sd (p : PR) : Prop := ∀ ts t r, p ts = some (t, r) → ∃ w, ts = w ++ r ∧ Gd w
theorem sd_fail : Sd fail := fun _ _ _ h => by cases h
theorem gd_one {x : Tok} (h : isEnd x = true) (hb : bal1 x = 0) : Gd [x] := ⟨h, by rw [bal_cons, hb]; rfl, rfl⟩
end K2

set_option maxRecDepth 100000
set_option maxHeartbeats 4000000
/-! what the mirror of the parser accepts ends well, is in balance, has no two atoms side by side -/
namespace K2
open PySem hiding Tok
open K1

theorem sg {c : Nat} (h : c ≠ 40 ∧ c ≠ 41) : isStart (.sign c) = false ∧ isEnd (.sign c) = false ∧ bal1 (.sign c) = 0 := by
  refine ⟨rfl, ?_, ?_⟩
  · show (c == 41) = false
    simpa using h.2
  · unfold bal1
    split
    · rename_i e; cases e; exact absurd rfl h.1
    · rename_i e; cases e; exact absurd rfl h.2
    · rfl
theorem kwS {x : List Nat} (h : kwL.contains x = true) : isStart (.word x) = false := by
  show nmB x = false
  unfold nmB
  rw [h]
  simp
theorem Gd.mid1 {a b : List Tok} {x : Tok} (ga : Gd a) (gb : Gd b) (h : isStart x = false ∧ isEnd x = false ∧ bal1 x = 0) : Gd (a ++ (x :: b)) :=
  Gd.mid (m := [x]) ga gb (by simp) (fun y hy => by rw [List.mem_singleton.mp hy]; exact h.1) (fun y hy => by rw [List.mem_singleton.mp hy]; exact h.2.1)
    (fun y hy => by rw [List.mem_singleton.mp hy]; exact h.2.2)
theorem sd_many {w : PR} {sep : Nat} (hw : Sd w) (hs : sep ≠ 40 ∧ sep ≠ 41) : ∀ (m : Nat) (ts : List Tok) (l : List Tr) (r : List Tok), many w sep m ts = some (l, r) → ∃ v, ts = v ++ r ∧ Gd v
  | 0, _, _, _, h => by cases h
  | m + 1, ts, l, r, h => by
    rw [many] at h
    split at h
    · cases h
    · rename_i t c r' e
      obtain ⟨v, hv, gv⟩ := hw _ _ _ e
      split at h
      · rename_i hc
        split at h
        · cases h
        · rename_i l2 r2 e2
          cases h
          obtain ⟨v2, hv2, g2⟩ := sd_many hw hs m _ _ _ e2
          refine ⟨v ++ (.sign c :: v2), by rw [hv, hv2]; simp, Gd.mid1 gv g2 (sg (by rw [hc]; exact hs))⟩
      · cases h
        exact ⟨v, hv, gv⟩
    · rename_i t r' _ e
      cases h
      exact hw _ _ _ e
theorem sd_loop {x : PR} {cs : List Nat} (hx : Sd x) (hc : ∀ c ∈ cs, c ≠ 40 ∧ c ≠ 41) : ∀ (m : Nat) (t : Tr) (r : List Tok) (u : Tr) (r2 : List Tok), opLoop x cs m t r = some (u, r2) →
    ∃ v, r = v ++ r2 ∧ ∀ g, Gd g → Gd (g ++ v)
  | 0, t, r, _, _, h => by
    unfold opLoop at h
    cases h
  | m + 1, t, r, u, r2, h => by
    cases r with
    | nil => cases h; exact ⟨[], rfl, fun g hg => by rw [List.append_nil]; exact hg⟩
    | cons y r =>
      cases y with
      | sign c =>
        rw [opLoop] at h
        split at h
        · rename_i hcc
          split at h
          · cases h
          · rename_i u' r' e
            split at h
            · obtain ⟨v, hv, gv⟩ := hx _ _ _ e
              obtain ⟨v2, hv2, g2⟩ := sd_loop hx hc m _ _ _ _ h
              refine ⟨.sign c :: (v ++ v2), by rw [hv, hv2]; simp, fun g hg => ?_⟩
              have := g2 _ (Gd.mid1 hg gv (sg (hc c hcc)))
              simpa using this
            · cases h
        · cases h; exact ⟨[], rfl, fun g hg => by rw [List.append_nil]; exact hg⟩
      | word _ => cases h; exact ⟨[], rfl, fun g hg => by rw [List.append_nil]; exact hg⟩
      | num _ => cases h; exact ⟨[], rfl, fun g hg => by rw [List.append_nil]; exact hg⟩
      | str _ => cases h; exact ⟨[], rfl, fun g hg => by rw [List.append_nil]; exact hg⟩
theorem sd_mul {a : PR} (ha : Sd a) : Sd (mulP a) := fun ts t r h => by
  unfold mulP at h
  split at h
  · cases h
  · rename_i u r' e
    obtain ⟨v, hv, gv⟩ := ha _ _ _ e
    obtain ⟨v2, hv2, g2⟩ := sd_loop ha (by decide) _ _ _ _ _ h
    exact ⟨v ++ v2, by rw [hv, hv2]; simp, g2 _ gv⟩
theorem sd_add {a : PR} (ha : Sd a) : Sd (addP a) := fun ts t r h => by
  unfold addP at h
  split at h
  · cases h
  · rename_i u r' e
    obtain ⟨v, hv, gv⟩ := sd_mul ha _ _ _ e
    obtain ⟨v2, hv2, g2⟩ := sd_loop (sd_mul ha) (by decide) _ _ _ _ _ h
    exact ⟨v ++ v2, by rw [hv, hv2]; simp, g2 _ gv⟩
theorem sd_cmp {a : PR} (ha : Sd a) : Sd (cmpP a) := fun ts t r h => by
  unfold cmpP at h
  split at h
  · cases h
  · rename_i u c r' e
    obtain ⟨v, hv, gv⟩ := sd_add ha _ _ _ e
    split at h
    · rename_i hc
      split at h
      · cases h
      · rename_i u2 r2 e2
        obtain ⟨v2, hv2, g2⟩ := sd_add ha _ _ _ e2
        obtain ⟨t', _, ht⟩ := Option.map_eq_some_iff.mp h
        cases ht
        exact ⟨v ++ (.sign c :: v2), by rw [hv, hv2]; simp, Gd.mid1 gv g2 (sg (by rcases hc with h | h <;> rw [h] <;> decide))⟩
    · cases h
      exact ⟨v, hv, gv⟩
  · rename_i u r' _ e
    cases h
    exact sd_add ha _ _ _ e
theorem afterW_some {x : List Nat} {f : PR} {ts : List Tok} {o : Tr × List Tok} (h : afterW x f ts = some o) : ∃ r, ts = .word x :: r ∧ f r = some o := by
  unfold afterW at h
  split at h
  · split at h
    · rename_i e
      exact ⟨_, by rw [e], h⟩
    · cases h
  · cases h
theorem sd_ite {wb : PR} (hw : Sd wb) : Sd (iteP wb) := fun ts t r h => by
  unfold iteP at h
  split at h
  · cases h
  · rename_i a r1 e1
    obtain ⟨v1, hv1, g1⟩ := hw _ _ _ e1
    obtain ⟨r1', q1, h⟩ := afterW_some h
    split at h
    · cases h
    · rename_i b r2 e2
      obtain ⟨v2, hv2, g2⟩ := hw _ _ _ e2
      obtain ⟨r2', q2, h⟩ := afterW_some h
      split at h
      · cases h
      · rename_i c r3 e3
        obtain ⟨v3, hv3, g3⟩ := hw _ _ _ e3
        obtain ⟨t', _, ht⟩ := Option.map_eq_some_iff.mp h
        cases ht
        refine ⟨v1 ++ (.word wThen :: (v2 ++ (.word wElse :: v3))), by rw [hv1, q1, hv2, q2, hv3]; simp, Gd.mid1 g1 (Gd.mid1 g2 g3 ?_) ?_⟩
        · exact ⟨kwS (by decide +kernel), kwS (by decide +kernel), rfl⟩
        · exact ⟨kwS (by decide +kernel), kwS (by decide +kernel), rfl⟩
theorem sd_set {wb : PR} (hw : Sd wb) {ts : List Tok} {t : Tr} {r : List Tok} (h : setP wb ts = some (t, r)) : ∃ w, .word wSet :: ts = w ++ r ∧ Gd w := by
  unfold setP at h
  split at h
  · rename_i x r0
    split at h
    · split at h
      · cases h
      · rename_i u r1 e
        obtain ⟨v, hv, g⟩ := hw _ _ _ e
        obtain ⟨t', _, ht⟩ := Option.map_eq_some_iff.mp h
        cases ht
        refine ⟨[.word wSet, .word x, .sign 61] ++ v, by rw [hv]; rfl, Gd.pre g ?_ (fun y hy => by cases hy; rfl) rfl⟩
        have e1 : isEnd (.word wSet) = false := kwS (by decide +kernel)
        show (!(isEnd (.word wSet) && isStart (.word x)) && (!(isEnd (.word x) && false) && true)) = true
        rw [e1, Bool.and_false]
        rfl
    · cases h
  · cases h
theorem sd_atom {ok : Bool} {w : PR} (hw : Sd w) : Sd (atomP ok w) := fun ts t r h => by
  have par : ∀ {ts : List Tok} {sep : Nat} {l : List Tr} {r : List Tok}, sep ≠ 40 ∧ sep ≠ 41 → parens w sep ts = some (l, r) → ∃ v, ts = v ++ (.sign 41 :: r) ∧ Gd v := fun hs h => by
    unfold parens at h
    split at h
    · rename_i l' r' e
      cases h
      exact sd_many hw hs _ _ _ _ e
    · cases h
  unfold atomP at h
  split at h
  · split at h
    · split at h
      · cases h
      · rename_i l r2 e
        obtain ⟨v, hv, g⟩ := par (by decide) e
        obtain ⟨t', _, ht⟩ := Option.map_eq_some_iff.mp h
        cases ht
        exact ⟨[] ++ (.sign 40 :: (v ++ [.sign 41])), by rw [hv]; simp, Gd.par g rfl rfl⟩
    · cases h
  · cases h
    exact ⟨[_], rfl, gd_one rfl rfl⟩
  · cases h
    exact ⟨[_], rfl, gd_one rfl rfl⟩
  · rename_i l r'
    split at h
    · cases h
      refine ⟨[.word l, .sign 40, .sign 41], rfl, rfl, rfl, ?_⟩
      show (!(isEnd (.word l) && false) && (!(false && false) && true)) = true
      rw [Bool.and_false]
      rfl
    · cases h
  · rename_i l r' _
    split at h
    · split at h
      · cases h
      · rename_i as r2 e
        obtain ⟨v, hv, g⟩ := par (by decide) e
        obtain ⟨t', _, ht⟩ := Option.map_eq_some_iff.mp h
        cases ht
        exact ⟨[.word l] ++ (.sign 40 :: (v ++ [.sign 41])), by rw [hv]; simp, Gd.par g rfl rfl⟩
    · cases h
  · rename_i l r' _ _
    split at h
    · rename_i hn
      cases h
      exact ⟨[.word l], rfl, gd_one hn rfl⟩
    · cases h
  · cases h
theorem sd_whole {wb a : PR} (hw : Sd wb) (ha : Sd a) : Sd (wholeP wb a) := fun ts t r h => by
  unfold wholeP at h
  split at h
  · rename_i w r'
    split at h
    · rename_i e
      subst e
      obtain ⟨v, hv, g⟩ := sd_ite hw _ _ _ h
      refine ⟨[.word wIf] ++ v, by rw [hv]; rfl, Gd.pre g rfl (fun x hx => by cases hx; exact kwS (by decide +kernel)) rfl⟩
    · split at h
      · rename_i e
        subst e
        exact sd_set hw h
      · exact sd_cmp ha _ _ _ h
  · exact sd_cmp ha _ _ _ h
theorem sd_P : ∀ (n d b : Nat), Sd (P n d b)
  | 0, _, _ => sd_fail
  | n + 1, d, b => by
    rw [P]
    refine sd_whole ?_ (sd_atom (sd_P n (d + 1) b))
    split
    · exact sd_P n d (b + 1)
    · exact sd_fail
/-- what the mirror of parse accepts -/
theorem parseM_gd {ts : List Tok} (h : parseM ts ≠ none) : Gd ts := by
  unfold parseM at h
  split at h
  · rename_i t e
    obtain ⟨v, hv, g⟩ := sd_P _ _ _ _ _ _ e
    rw [List.append_nil] at hv
    rw [hv]
    exact g
  · exact absurd rfl h
/-- a token less -/
theorem gd_less {ts : List Tok} (g : Gd ts) : parseM ts.dropLast = none := by
  cases e : parseM ts.dropLast with
  | none => rfl
  | some u =>
    exfalso
    have g2 := parseM_gd (ts := ts.dropLast) (by rw [e]; intro z; cases z)
    have hn : ts ≠ [] := fun z => by have := g.ne; rw [z] at this; cases this
    have e1 := List.dropLast_concat_getLast hn
    have b1 : bal ts = bal ts.dropLast + bal [ts.getLast hn] := by rw [← bal_app, e1]
    have b2 : bal [ts.getLast hn] = bal1 (ts.getLast hn) := by unfold bal; simp
    have f1 : isEnd (ts.getLast hn) = true := by
      have := g.ne
      unfold fin at this
      rw [List.getLast?_eq_some_getLast hn] at this
      exact this
    have z : bal1 (ts.getLast hn) = 0 := by have := g.b; have := g2.b; omega
    have st : isStart (ts.getLast hn) = true := by
      cases hx : ts.getLast hn with
      | sign c =>
        rw [hx] at f1 z
        have : c = 41 := by simpa [isEnd] using f1
        subst this
        exact absurd z (by decide)
      | word l => rw [hx] at f1; exact f1
      | num n => rfl
      | str l => rfl
    -- the one ahead of it ends an expression too
    have f2 := g2.ne
    unfold fin at f2
    cases hl : ts.dropLast.getLast? with
    | none => rw [hl] at f2; cases f2
    | some x =>
      rw [hl] at f2
      have a1 := g.a
      obtain ⟨q, hq⟩ : ∃ q, ts.dropLast = q ++ [x] := ⟨ts.dropLast.dropLast, by
        have hn2 : ts.dropLast ≠ [] := fun z => by rw [z] at hl; cases hl
        have h1 := List.dropLast_concat_getLast hn2
        rw [List.getLast?_eq_some_getLast hn2] at hl
        cases hl
        exact h1.symm⟩
      rw [← e1, hq, List.append_assoc] at a1
      have : ∀ (q : List Tok) (x y : Tok), adj (q ++ ([x] ++ [y])) = true → (isEnd x && isStart y) = false := fun q => by
        induction q with
        | nil => intro x y h; have h : (!(isEnd x && isStart y) && true) = true := h; rw [Bool.and_true] at h; exact Bool.not_eq_true' _ |>.mp h
        | cons z q ih =>
          intro x y h
          refine ih x y ?_
          cases q with
          | nil => have h : (!(isEnd z && isStart x) && adj [x, y]) = true := h; rw [Bool.and_eq_true] at h; exact h.2
          | cons w q => have h : (!(isEnd z && isStart w) && adj (w :: (q ++ ([x] ++ [y])))) = true := h; rw [Bool.and_eq_true] at h; exact h.2
      have := this _ _ _ a1
      have f2 : isEnd x = true := f2
      rw [f2, st] at this
      cases this
/-- a token more -/
def moreM : List Tok := [.num 1, .sign 41, .sign 43, .sign 40, .word wThen, .sign 59]
theorem gd_more {ts : List Tok} (g : Gd ts) {x : Tok} (hx : x ∈ moreM) : parseM (ts ++ [x]) = none := by
  cases e : parseM (ts ++ [x]) with
  | none => rfl
  | some u =>
    exfalso
    have g2 := parseM_gd (ts := ts ++ [x]) (by rw [e]; intro z; cases z)
    have hb : bal1 x = 0 := by have := g2.b; rw [bal_app, g.b, bal_cons] at this; have e : bal ([] : List Tok) = 0 := rfl; omega
    have hf : isEnd x = true := by have := g2.ne; unfold fin at this; rw [List.getLast?_append] at this; exact this
    have hs : isStart x = true := by
      have : ∀ x ∈ moreM, bal1 x = 0 → isEnd x = true → isStart x = true := by
        intro x hx
        unfold moreM at hx
        simp only [List.mem_cons, List.not_mem_nil, or_false] at hx
        rcases hx with rfl | rfl | rfl | rfl | rfl | rfl
        · exact fun _ _ => rfl
        · exact fun h => absurd h (by decide)
        · exact fun _ h => by cases h
        · exact fun h => absurd h (by decide)
        · exact fun _ h => by rw [show isEnd (.word wThen) = false from kwS (by decide +kernel)] at h; cases h
        · exact fun _ h => by cases h
      exact this x hx hb hf
    have f := g.ne
    unfold fin at f
    cases hl : ts.getLast? with
    | none => rw [hl] at f; cases f
    | some y =>
      rw [hl] at f
      have hn : ts ≠ [] := fun z => by rw [z] at hl; cases hl
      have h1 := List.dropLast_concat_getLast hn
      rw [List.getLast?_eq_some_getLast hn] at hl
      cases hl
      have a1 := g2.a
      rw [← h1, List.append_assoc] at a1
      have : ∀ (q : List Tok) (x y : Tok), adj (q ++ ([x] ++ [y])) = true → (isEnd x && isStart y) = false := fun q => by
        induction q with
        | nil => intro x y h; have h : (!(isEnd x && isStart y) && true) = true := h; rw [Bool.and_true] at h; exact Bool.not_eq_true' _ |>.mp h
        | cons z q ih =>
          intro x y h
          refine ih x y ?_
          cases q with
          | nil => have h : (!(isEnd z && isStart x) && adj [x, y]) = true := h; rw [Bool.and_eq_true] at h; exact h.2
          | cons w q => have h : (!(isEnd z && isStart w) && adj (w :: (q ++ ([x] ++ [y])))) = true := h; rw [Bool.and_eq_true] at h; exact h.2
      have := this _ _ _ a1
      have f : isEnd (ts.getLast hn) = true := f
      rw [f, hs] at this
      cases this
theorem parse_star (ts : List Tok) : parseM (.sign 42 :: ts) = none := rfl
end K2

set_option maxRecDepth 100000
set_option maxHeartbeats 4000000
/-! what spells a tree is parsed to it -/
namespace K2
open PySem hiding Tok
open K1

def sepBy (c : Nat) : List (List Tok) → List Tok
  | [] => []
  | [a] => a
  | a :: b :: l => a ++ (.sign c :: sepBy c (b :: l))
/-- tokens that spell a tree where level k must stand; p parentheses and b branches deep at most -/
inductive Sp : Nat → Tr → List Tok → Nat → Nat → Prop
  | num {n p b} : Sp 4 (.num n) [.num n] p b
  | str {l p b} : Sp 4 (.str l) [.str l] p b
  | name {l p b} : nmB l = true → Sp 4 (.name l) [.word l] p b
  | call {f p b} {l : List (Tr × List Tok)} : nmB f = true → (∀ x ∈ l, Sp 0 x.1 x.2 p b) → (∀ x ∈ l, hgt x.1 ≤ 11) →
      Sp 4 (.call f (l.map (·.1))) (.word f :: .sign 40 :: (sepBy 44 (l.map (·.2)) ++ [.sign 41])) (p + 1) b
  | par {t p b} {l : List (Tr × List Tok)} : foldSeq (l.map (·.1)) = some t → (∀ x ∈ l, Sp 0 x.1 x.2 p b) → Sp 4 t (.sign 40 :: (sepBy 59 (l.map (·.2)) ++ [.sign 41])) (p + 1) b
  | mul {t u tt uu p b} : Sp 3 t tt p b → Sp 4 u uu p b → hgt t ≤ 11 → hgt u ≤ 11 → Sp 3 (.op 42 t u) (tt ++ (.sign 42 :: uu)) p b
  | add {c t u tt uu p b} : (c = 43 ∨ c = 45) → Sp 2 t tt p b → Sp 3 u uu p b → hgt t ≤ 11 → hgt u ≤ 11 → Sp 2 (.op c t u) (tt ++ (.sign c :: uu)) p b
  | cmp {c t u tt uu p b} : (c = 61 ∨ c = 60) → Sp 2 t tt p b → Sp 2 u uu p b → hgt t ≤ 11 → hgt u ≤ 11 → Sp 1 (.op c t u) (tt ++ (.sign c :: uu)) p b
  | ite {x y z xx yy zz p b} : Sp 0 x xx p b → Sp 0 y yy p b → Sp 0 z zz p b → hgt x ≤ 11 → hgt y ≤ 11 → hgt z ≤ 11 →
      Sp 0 (.ite x y z) (.word wIf :: (xx ++ (.word wThen :: (yy ++ (.word wElse :: zz))))) p (b + 1)
  | set {x t tt p b} : nmB x = true → Sp 0 t tt p b → hgt t ≤ 11 → Sp 0 (.set x t) (.word wSet :: .word x :: .sign 61 :: tt) p (b + 1)
  | up {k t tt p b} : Sp (k + 1) t tt p b → Sp k t tt p b
  | more {k t tt p b p' b'} : Sp k t tt p b → p ≤ p' → b ≤ b' → Sp k t tt p' b'
theorem Sp.le4 {k t tt p b} (h : Sp k t tt p b) : k ≤ 4 := by
  induction h with
  | up _ ih => omega
  | more _ _ _ ih => exact ih
  | _ => omega
theorem Sp.down {t tt p b} : ∀ {k : Nat} (j : Nat), Sp (k + j) t tt p b → Sp k t tt p b
  | _, 0, h => h
  | k, j + 1, h => Sp.down j (Sp.up (k := k + j) h)
/-- what must not follow -/
def forb : Nat → List Nat
  | 0 => [40, 42, 43, 45, 60, 61]
  | 1 => [40, 42, 43, 45, 60, 61]
  | 2 => [40, 42]
  | _ => [40]
def NR (k : Nat) (r : List Tok) : Prop := ∀ c r', r = .sign c :: r' → c ∉ forb k
theorem NR.up {k : Nat} {r : List Tok} (h : NR k r) : NR (k + 1) r := fun c r' e z => h c r' e (by
  have : ∀ k, ∀ c ∈ forb (k + 1), c ∈ forb k := by
    intro k
    match k with
    | 0 => decide
    | 1 => decide
    | 2 => decide
    | k + 3 => exact fun c h => h
  exact this k c z)
theorem NR.sign {k c : Nat} {r : List Tok} (h : c ∉ forb k) : NR k (.sign c :: r) := fun c' r' e => by cases e; exact h
theorem NR.word {k : Nat} {l : List Nat} {r : List Tok} : NR k (.word l :: r) := fun c' r' e => by cases e
theorem loop_end {x : PR} {cs : List Nat} {m : Nat} {t : Tr} {r : List Tok} (hm : r.length < m) (h : ∀ c r', r = .sign c :: r' → c ∉ cs) : opLoop x cs m t r = some (t, r) := by
  obtain ⟨m, rfl⟩ : ∃ k, m = k + 1 := ⟨m - 1, by omega⟩
  cases r with
  | nil => rfl
  | cons y r =>
    cases y with
    | sign c => rw [opLoop, if_neg (h c r rfl)]
    | word _ => rfl
    | num _ => rfl
    | str _ => rfl
theorem loop_go {x : PR} {cs : List Nat} {m c : Nat} {t u : Tr} {q r : List Tok} (hc : c ∈ cs) (hm : (Tok.sign c :: (q ++ r)).length < m) (hx : x (q ++ r) = some (u, r)) (hh : hgt (.op c t u) ≤ 12) :
    ∃ m', r.length < m' ∧ opLoop x cs m t (.sign c :: (q ++ r)) = opLoop x cs m' (.op c t u) r := by
  obtain ⟨m, rfl⟩ : ∃ k, m = k + 1 := ⟨m - 1, by omega⟩
  refine ⟨m, by simp at hm; omega, ?_⟩
  rw [opLoop, if_pos hc, hx]
  show (if _ then _ else _) = _
  rw [if_pos hh]
theorem sep_len (c : Nat) : ∀ l : List (List Tok), l.length ≤ (sepBy c l).length + 1
  | [] => by simp
  | [a] => by simp
  | a :: b :: l => by
    have := sep_len c (b :: l)
    show l.length + 2 ≤ (a ++ (.sign c :: sepBy c (b :: l))).length + 1
    rw [List.length_append, List.length_cons]
    have e : (b :: l).length = l.length + 1 := rfl
    omega
theorem many_sep {w : PR} {sep : Nat} (hs : sep = 59 ∨ sep = 44) {r : List Tok} : ∀ (l : List (Tr × List Tok)) (m : Nat), l ≠ [] → l.length ≤ m → (∀ x ∈ l, ∀ r, NR 0 r → w (x.2 ++ r) = some (x.1, r)) →
    many w sep m (sepBy sep (l.map (·.2)) ++ (.sign 41 :: r)) = some (l.map (·.1), .sign 41 :: r)
  | [], _, h, _, _ => absurd rfl h
  | [(t, tt)], m, _, hm, hw => by
    obtain ⟨m, rfl⟩ : ∃ k, m = k + 1 := ⟨m - 1, by simp at hm; omega⟩
    show many w sep (m + 1) (tt ++ (.sign 41 :: r)) = _
    rw [many, hw (t, tt) List.mem_cons_self _ (NR.sign (by decide))]
    show (if 41 = sep then _ else _) = _
    rw [if_neg (by rcases hs with h | h <;> rw [h] <;> decide)]
    rfl
  | (t, tt) :: y :: l, m, _, hm, hw => by
    obtain ⟨m, rfl⟩ : ∃ k, m = k + 1 := ⟨m - 1, by simp at hm; omega⟩
    have ih := many_sep hs (r := r) (y :: l) m (by simp) (by simpa using hm) (fun x hx => hw x (List.mem_cons_of_mem _ hx))
    show many w sep (m + 1) (tt ++ (.sign sep :: sepBy sep ((y :: l).map (·.2))) ++ (.sign 41 :: r)) = _
    rw [List.append_assoc, List.cons_append, many, hw (t, tt) List.mem_cons_self _ (NR.sign (by rcases hs with h | h <;> rw [h] <;> decide))]
    show (if sep = sep then _ else _) = _
    rw [if_pos rfl, ih]
    rfl
theorem hgtL_le {h : Nat} : ∀ {l : List Tr}, (∀ x ∈ l, hgt x ≤ h) → hgtL l ≤ h
  | [], _ => by rw [hgtL]; omega
  | t :: l, hx => by
    rw [hgtL]
    have := hx t List.mem_cons_self
    have := hgtL_le (l := l) (fun x z => hx x (List.mem_cons_of_mem _ z))
    omega
/-- the first token of what is no if and no set -/
theorem Sp.head {k t tt p b} (h : Sp k t tt p b) : 1 ≤ k → ∃ x r, tt = x :: r ∧ (∀ l, x = .word l → nmB l = true) := by
  induction h with
  | num => exact fun _ => ⟨_, _, rfl, fun l e => by cases e⟩
  | str => exact fun _ => ⟨_, _, rfl, fun l e => by cases e⟩
  | name hn => exact fun _ => ⟨_, _, rfl, fun l e => by cases e; exact hn⟩
  | call hn => exact fun _ => ⟨_, _, rfl, fun l e => by cases e; exact hn⟩
  | par => exact fun _ => ⟨_, _, rfl, fun l e => by cases e⟩
  | mul _ _ _ _ ih _ => intro _; obtain ⟨x, r, e, h⟩ := ih (by omega); exact ⟨x, _, by rw [e]; rfl, h⟩
  | add _ _ _ _ _ ih _ => intro _; obtain ⟨x, r, e, h⟩ := ih (by omega); exact ⟨x, _, by rw [e]; rfl, h⟩
  | cmp _ _ _ _ _ ih _ => intro _; obtain ⟨x, r, e, h⟩ := ih (by omega); exact ⟨x, _, by rw [e]; rfl, h⟩
  | ite => intro h; omega
  | set => intro h; omega
  | up _ ih => intro h; exact ih (by omega)
  | more _ _ _ ih => exact ih
theorem whole_if (wb a : PR) (r : List Tok) : wholeP wb a (.word wIf :: r) = iteP wb r := by rw [wholeP, if_pos rfl]
theorem whole_set (wb a : PR) (r : List Tok) : wholeP wb a (.word wSet :: r) = setP wb r := by rw [wholeP, if_neg (by decide +kernel), if_pos rfl]
theorem after_eq (x : List Nat) (f : PR) (r : List Tok) : afterW x f (.word x :: r) = f r := if_pos rfl
/-- what is said at each level -/
def At (k : Nat) (t : Tr) (tt : List Tok) (n d b0 : Nat) (r : List Tok) : Prop :=
  match k with
  | 0 => P (n + 1) d b0 (tt ++ r) = some (t, r)
  | 1 => cmpP (atomP (decide (d + 1 ≤ 10)) (P n (d + 1) b0)) (tt ++ r) = some (t, r)
  | 2 => ∃ m, r.length < m ∧ addP (atomP (decide (d + 1 ≤ 10)) (P n (d + 1) b0)) (tt ++ r) = opLoop (mulP (atomP (decide (d + 1 ≤ 10)) (P n (d + 1) b0))) [43, 45] m t r
  | 3 => ∃ m, r.length < m ∧ mulP (atomP (decide (d + 1 ≤ 10)) (P n (d + 1) b0)) (tt ++ r) = opLoop (atomP (decide (d + 1 ≤ 10)) (P n (d + 1) b0)) [42] m t r
  | _ => atomP (decide (d + 1 ≤ 10)) (P n (d + 1) b0) (tt ++ r) = some (t, r)
theorem at_mul {t tt n d b0 r} (h : At 3 t tt n d b0 r) (hr : NR 2 r) : mulP (atomP (decide (d + 1 ≤ 10)) (P n (d + 1) b0)) (tt ++ r) = some (t, r) := by
  obtain ⟨m, hm, e⟩ := h
  rw [e, loop_end hm (fun c r' z q => hr c r' z (by revert q; show c ∈ [42] → c ∈ [40, 42]; simp; omega))]
theorem at_add {t tt n d b0 r} (h : At 2 t tt n d b0 r) (hr : ∀ c r', r = Tok.sign c :: r' → c ∉ [43, 45]) : addP (atomP (decide (d + 1 ≤ 10)) (P n (d + 1) b0)) (tt ++ r) = some (t, r) := by
  obtain ⟨m, hm, e⟩ := h
  rw [e, loop_end hm hr]
theorem sp_at {k t tt p b} (h : Sp k t tt p b) : ∀ n d b0 r, p + b ≤ n → d + p ≤ 10 → b0 + b ≤ 11 → NR k r → At k t tt n d b0 r := by
  induction h with
  | num => exact fun n d b0 r _ _ _ _ => rfl
  | str => exact fun n d b0 r _ _ _ _ => rfl
  | @name l p b hn =>
    intro n d b0 r _ _ _ hr
    show atomP _ _ (.word l :: r) = _
    unfold atomP
    split
    · rename_i e; cases e
    · rename_i e; cases e
    · rename_i e; cases e
    · rename_i e; cases e; exact absurd (List.mem_cons_self) (hr 40 _ rfl)
    · rename_i e; cases e; exact absurd (List.mem_cons_self) (hr 40 _ rfl)
    · rename_i e
      cases e
      rw [if_pos hn]
    · rename_i h
      exact absurd rfl (h _ _)
  | @call f p b l hn hl hh ih =>
    intro n d b0 r h1 h2 h3 hr
    have ok : decide (d + 1 ≤ 10) = true := decide_eq_true (by omega)
    obtain ⟨n, rfl⟩ : ∃ k, n = k + 1 := ⟨n - 1, by omega⟩
    show atomP (decide (d + 1 ≤ 10)) _ (.word f :: .sign 40 :: (sepBy 44 (l.map (·.2)) ++ [.sign 41] ++ r)) = _
    rw [ok]
    cases l with
    | nil =>
      show (if nmB f && true then _ else _) = _
      rw [hn]
      rfl
    | cons x l =>
      have ml := many_sep (w := P (n + 1) (d + 1) b0) (sep := 44) (r := r) (.inr rfl) (x :: l) ((sepBy 44 (List.map (fun z : Tr × List Tok => z.2) (x :: l)) ++ [Tok.sign 41] ++ r).length + 1) (by simp)
        (by have := sep_len 44 ((x :: l).map (·.2)); simp only [List.length_append, List.length_cons, List.length_map, List.length_nil] at this ⊢; omega)
        (fun y hy r' hr' => ih y hy n (d + 1) b0 r' (by omega) (by omega) (by omega) hr')
      have pe : parens (P (n + 1) (d + 1) b0) 44 (sepBy 44 ((x :: l).map (·.2)) ++ [.sign 41] ++ r) = some ((x :: l).map (·.1), r) := by
        unfold parens
        rw [List.append_assoc] at ml ⊢
        show (match many _ 44 _ (sepBy 44 ((x :: l).map (·.2)) ++ (.sign 41 :: r)) with | some (l, .sign 41 :: r) => some (l, r) | _ => none) = _
        rw [show [Tok.sign 41] ++ r = .sign 41 :: r from rfl] at ml ⊢
        rw [ml]
        rfl
      unfold atomP
      split
      · rename_i e; cases e
      · rename_i e; cases e
      · rename_i e; cases e
      · rename_i l' r' e
        exfalso
        -- a text does not begin with a closing parenthesis
        injection e with e0 e
        injection e with e1 e
        rw [e] at pe
        have : parens (P (n + 1) (d + 1) b0) 44 (.sign 41 :: r') = none := by
          unfold parens many
          have : P (n + 1) (d + 1) b0 (.sign 41 :: r') = none := rfl
          rw [this]
        rw [this] at pe
        cases pe
      · rename_i l' r' _ e
        injection e with e0 e
        injection e with e1 e
        injection e0 with e0
        subst e0
        rw [hn, ← e]
        show (if (true && true) = true then (match parens _ 44 (sepBy 44 ((x :: l).map (·.2)) ++ [.sign 41] ++ r) with | none => none | some (as, r2) => (bd (.call f as)).map fun t => (t, r2)) else none) = _
        rw [pe]
        show (bd (.call f ((x :: l).map (·.1)))).map _ = _
        unfold bd
        rw [if_pos (by
          rw [hgt]
          have := hgtL_le (h := 11) (l := (x :: l).map (·.1)) (fun y hy => by obtain ⟨z, hz, e⟩ := List.mem_map.mp hy; rw [← e]; exact hh z hz)
          omega)]
        rfl
      · rename_i _ h e
        cases e
        exact (h _ rfl).elim
      · rename_i h _
        exact (h _ _ rfl).elim
  | @par t p b l hf hl ih =>
    intro n d b0 r h1 h2 h3 hr
    have ok : decide (d + 1 ≤ 10) = true := decide_eq_true (by omega)
    obtain ⟨n, rfl⟩ : ∃ k, n = k + 1 := ⟨n - 1, by omega⟩
    show atomP (decide (d + 1 ≤ 10)) _ (.sign 40 :: (sepBy 59 (l.map (·.2)) ++ [.sign 41] ++ r)) = _
    rw [ok]
    have hn : l ≠ [] := fun z => by rw [z] at hf; cases hf
    have ml := many_sep (w := P (n + 1) (d + 1) b0) (sep := 59) (r := r) (.inl rfl) l ((sepBy 59 (List.map (fun z : Tr × List Tok => z.2) l) ++ [Tok.sign 41] ++ r).length + 1) hn
        (by have := sep_len 59 (l.map (·.2)); simp only [List.length_append, List.length_cons, List.length_map, List.length_nil] at this ⊢; omega)
        (fun y hy r' hr' => ih y hy n (d + 1) b0 r' (by omega) (by omega) (by omega) hr')
    have pe : parens (P (n + 1) (d + 1) b0) 59 (sepBy 59 (l.map (·.2)) ++ [.sign 41] ++ r) = some (l.map (·.1), r) := by
      unfold parens
      rw [List.append_assoc] at ml ⊢
      rw [show [Tok.sign 41] ++ r = .sign 41 :: r from rfl] at ml ⊢
      rw [ml]
      rfl
    show (if true then (match parens _ 59 _ with | none => none | some (l, r2) => (foldSeq l).map fun t => (t, r2)) else none) = _
    rw [pe]
    show (foldSeq (l.map (·.1))).map _ = _
    rw [hf]
    rfl
  | @mul t u tt uu p b _ _ ht hu iht ihu =>
    intro n d b0 r h1 h2 h3 hr
    obtain ⟨m, hm, e⟩ := iht n d b0 (.sign 42 :: (uu ++ r)) h1 h2 h3 (NR.sign (by decide))
    have eu := ihu n d b0 r h1 h2 h3 hr
    obtain ⟨m', hm', e'⟩ := loop_go (t := t) (cs := [42]) (c := 42) (by decide) hm eu (by rw [hgt]; omega)
    refine ⟨m', hm', ?_⟩
    rw [List.append_assoc]
    exact e.trans e'
  | @add c t u tt uu p b hc _ _ ht hu iht ihu =>
    intro n d b0 r h1 h2 h3 hr
    obtain ⟨m, hm, e⟩ := iht n d b0 (.sign c :: (uu ++ r)) h1 h2 h3 (NR.sign (by rcases hc with h | h <;> rw [h] <;> decide))
    have eu := at_mul (ihu n d b0 r h1 h2 h3 hr.up) hr
    obtain ⟨m', hm', e'⟩ := loop_go (t := t) (cs := [43, 45]) (c := c) (by rcases hc with h | h <;> rw [h] <;> decide) hm eu (by rw [hgt]; omega)
    refine ⟨m', hm', ?_⟩
    rw [List.append_assoc]
    exact e.trans e'
  | @cmp c t u tt uu p b hc _ _ ht hu iht ihu =>
    intro n d b0 r h1 h2 h3 hr
    have nr : ∀ c r', r = Tok.sign c :: r' → c ∉ [43, 45] := fun c r' e z => hr c r' e (by revert z; show c ∈ [43, 45] → c ∈ [40, 42, 43, 45, 60, 61]; simp; omega)
    have ht' := at_add (iht n d b0 (.sign c :: (uu ++ r)) h1 h2 h3 (NR.sign (by rcases hc with h | h <;> rw [h] <;> decide))) (fun c' r' e => by cases e; rcases hc with h | h <;> rw [h] <;> decide)
    have hu' := at_add (ihu n d b0 r h1 h2 h3 hr.up) nr
    show cmpP _ (tt ++ (.sign c :: uu) ++ r) = _
    rw [List.append_assoc]
    unfold cmpP
    rw [show (.sign c :: uu) ++ r = Tok.sign c :: (uu ++ r) from rfl, ht']
    show (if c = 61 ∨ c = 60 then _ else _) = _
    rw [if_pos hc, hu']
    show (bd _).map _ = _
    unfold bd
    rw [if_pos (by rw [hgt]; omega)]
    rfl
  | @ite x y z xx yy zz p b _ _ _ hx hy hz ihx ihy ihz =>
    intro n d b0 r h1 h2 h3 hr
    obtain ⟨n, rfl⟩ : ∃ k, n = k + 1 := ⟨n - 1, by omega⟩
    have ex := ihx n d (b0 + 1) (.word wThen :: (yy ++ (.word wElse :: (zz ++ r)))) (by omega) h2 (by omega) NR.word
    have ey := ihy n d (b0 + 1) (.word wElse :: (zz ++ r)) (by omega) h2 (by omega) NR.word
    have ez := ihz n d (b0 + 1) r (by omega) h2 (by omega) hr
    have ex : P (n + 1) d (b0 + 1) _ = _ := ex
    have ey : P (n + 1) d (b0 + 1) _ = _ := ey
    have ez : P (n + 1) d (b0 + 1) _ = _ := ez
    show P (n + 1 + 1) d b0 _ = _
    rw [P]
    show wholeP _ _ (.word wIf :: ((xx ++ (.word wThen :: (yy ++ (.word wElse :: zz)))) ++ r)) = _
    rw [whole_if, if_pos (by omega), List.append_assoc, List.cons_append, List.append_assoc, List.cons_append]
    unfold iteP
    rw [ex]
    dsimp only
    rw [after_eq, ey]
    dsimp only
    rw [after_eq, ez]
    show (bd _).map _ = _
    unfold bd
    rw [if_pos (by rw [hgt]; omega)]
    rfl
  | @set x t tt p b hn _ ht ih =>
    intro n d b0 r h1 h2 h3 hr
    obtain ⟨n, rfl⟩ : ∃ k, n = k + 1 := ⟨n - 1, by omega⟩
    have ez : P (n + 1) d (b0 + 1) _ = _ := ih n d (b0 + 1) r (by omega) h2 (by omega) hr
    show P (n + 1 + 1) d b0 _ = _
    rw [P]
    show wholeP _ _ (.word wSet :: .word x :: .sign 61 :: (tt ++ r)) = _
    rw [whole_set, if_pos (by omega)]
    show (if nmB x then (match P (n + 1) d (b0 + 1) (tt ++ r) with | none => none | some (t, r) => (bd (.set x t)).map fun t => (t, r)) else none) = _
    rw [if_pos hn, ez]
    show (bd _).map _ = _
    unfold bd
    rw [if_pos (by rw [hgt]; omega)]
    rfl
  | @up k t tt p b h ih =>
    intro n d b0 r h1 h2 h3 hr
    have i := ih n d b0 r h1 h2 h3 hr.up
    match k, h, hr, i with
    | 0, h, hr, i =>
      have i : cmpP _ _ = _ := i
      obtain ⟨x, r', e, hx⟩ := h.head (by omega)
      show P (n + 1) d b0 _ = _
      rw [P, e]
      rw [e] at i
      cases x with
      | word l =>
        have hl := hx l rfl
        have n1 : l ≠ wIf := fun z => by rw [z] at hl; exact absurd hl (by decide +kernel)
        have n2 : l ≠ wSet := fun z => by rw [z] at hl; exact absurd hl (by decide +kernel)
        show (if l = wIf then _ else if l = wSet then _ else _) = _
        rw [if_neg n1, if_neg n2]
        exact i
      | num _ => exact i
      | str _ => exact i
      | sign _ => exact i
    | 1, h, hr, i =>
      have a := at_add i (fun c r' e z => hr c r' e (by revert z; show c ∈ [43, 45] → c ∈ [40, 42, 43, 45, 60, 61]; simp; omega))
      show cmpP _ _ = _
      unfold cmpP
      rw [a]
      cases r with
      | nil => rfl
      | cons y r =>
        cases y with
        | sign c =>
          have nc : ¬ (c = 61 ∨ c = 60) := fun z => hr c r rfl (by rcases z with h | h <;> rw [h] <;> decide)
          show (if c = 61 ∨ c = 60 then _ else _) = _
          rw [if_neg nc]
        | word _ => rfl
        | num _ => rfl
        | str _ => rfl
    | 2, h, hr, i =>
      have a := at_mul i hr
      refine ⟨r.length + 1, by omega, ?_⟩
      unfold addP
      rw [a]
    | 3, h, hr, i =>
      have i : atomP _ _ _ = _ := i
      refine ⟨r.length + 1, by omega, ?_⟩
      unfold mulP
      rw [i]
    | k + 4, h, hr, i => exact absurd h.le4 (by omega)
  | more _ hp hb ih => exact fun n d b0 r h1 h2 h3 hr => ih n d b0 r (by omega) (by omega) (by omega) hr
/-- the tree is found again -/
theorem sp_parse {t tt p b} (h : Sp 0 t tt p b) (hp : p ≤ 10) (hb : b ≤ 11) : parseM tt = some t := by
  have := sp_at h 29 0 0 [] (by omega) (by omega) (by omega) (fun c r' e => by cases e)
  have this : P 30 0 0 (tt ++ []) = some (t, []) := this
  rw [List.append_nil] at this
  unfold parseM
  rw [this]
end K2

set_option maxRecDepth 100000
set_option maxHeartbeats 4000000
/-! texts of trees, and how they are split -/
namespace K2
open PySem hiding Tok
open K1

def nhd (b : List Nat) : Prop := ∀ c r, b = c :: r → c ∉ LET ∧ c ∉ DIG
/-- split into these tokens, whatever is split behind it -/
def LF (a : List Nat) (ts : List Tok) : Prop := ∀ b o, Lex b o → Lex (a ++ b) (o.map (ts ++ ·))
/-- the same, where no letter and no digit follows -/
def LP (a : List Nat) (ts : List Tok) : Prop := ∀ b o, nhd b → Lex b o → Lex (a ++ b) (o.map (ts ++ ·))
def st (b : List Nat) : Prop := ∃ c r, b = c :: r ∧ c ∉ LET ∧ c ∉ DIG
theorem LF.toP {a ts} (h : LF a ts) : LP a ts := fun b o _ x => h b o x
theorem map_app {o : Option (List Tok)} {ts us : List Tok} : (o.map (us ++ ·)).map (ts ++ ·) = o.map ((ts ++ us) ++ ·) := by
  cases o with
  | none => rfl
  | some l => show some (ts ++ (us ++ l)) = some ((ts ++ us) ++ l); rw [List.append_assoc]
theorem LF.app {a ts b us} (h : LF a ts) (k : LF b us) : LF (a ++ b) (ts ++ us) := fun c o x => by
  rw [List.append_assoc, ← map_app]
  exact h _ _ (k _ _ x)
theorem LF.appP {a ts b us} (h : LF a ts) (k : LP b us) : LP (a ++ b) (ts ++ us) := fun c o n x => by
  rw [List.append_assoc, ← map_app]
  exact h _ _ (k _ _ n x)
theorem LP.appF {a ts b us} (h : LP a ts) (k : LF b us) (hb : st b) : LF (a ++ b) (ts ++ us) := fun c o x => by
  rw [List.append_assoc, ← map_app]
  refine h _ _ (fun c' r e => ?_) (k _ _ x)
  obtain ⟨d, r', e', hd⟩ := hb
  rw [e'] at e
  cases e
  exact hd
theorem LP.app {a ts b us} (h : LP a ts) (k : LP b us) (hb : st b) : LP (a ++ b) (ts ++ us) := fun c o n x => by
  rw [List.append_assoc, ← map_app]
  refine h _ _ (fun c' r e => ?_) (k _ _ n x)
  obtain ⟨d, r', e', hd⟩ := hb
  rw [e'] at e
  cases e
  exact hd
theorem LF.nil : LF [] [] := fun b o x => by cases o <;> exact x
def B (g : Nat) : List Nat := List.replicate g 32
theorem LF.blanks (g : Nat) : LF (B g) [] := fun b o x => by
  have e : o.map (([] : List Tok) ++ ·) = o := by cases o <;> rfl
  rw [e]
  exact lex_blanks x g
theorem lex_tok {t : Tok} {b : List Nat} {o : Option (List Tok)} (g : good t) (ap : apart t b) (h : Lex b o) : Lex (spell t ++ b) (o.map ([t] ++ ·)) := by
  obtain ⟨c, r, e, hc, hl⟩ := lex_spell g ap
  have d : (spell t ++ b).drop (spell t).length = b := List.drop_left' rfl
  rw [e] at d ⊢
  exact .tok hc hl (by rw [d]; exact h)
theorem LP.tok {t : Tok} (g : good t) : LP (spell t) [t] := fun b o n h => lex_tok g (by
  cases t with
  | word l => exact fun c r e => (n c r e).1
  | num k => exact fun c r e => (n c r e).2
  | str _ => trivial
  | sign _ => trivial) h
theorem LF.sign {c : Nat} (g : c ∈ SGN) : LF [c] [.sign c] := fun b o h => lex_tok (t := .sign c) g trivial h
theorem st_sign {c : Nat} (g : c ∈ SGN) (r : List Nat) : st (c :: r) := ⟨c, r, rfl, by
  have : ∀ c ∈ SGN, c ∉ LET ∧ c ∉ DIG := by decide
  exact this c g⟩
theorem st_blank (r : List Nat) : st (32 :: r) := ⟨32, r, rfl, by decide, by decide⟩
theorem st_gap {g : Nat} {r : List Nat} (h : st r) : st (B g ++ r) := by
  cases g with
  | zero => exact h
  | succ g => exact st_blank _
theorem nmB_good {l : List Nat} (h : nmB l = true) : good (.word l) := by
  unfold nmB at h
  rw [Bool.and_eq_true, Bool.and_eq_true] at h
  have h1 := of_decide_eq_true h.1.1
  refine ⟨fun e => by rw [e] at h1; exact absurd h1.1 (by decide), h1.2, fun c hc => of_decide_eq_true (List.all_eq_true.mp h.2 c hc)⟩

/-- a text that spells a tree where level k must stand -/
def Ok (k : Nat) (t : Tr) (L : List Nat) (p b : Nat) : Prop := ∃ ts, LP L ts ∧ Sp k t ts p b
/-- the inside of parentheses -/
def OkS (t : Tr) (L : List Nat) (p b : Nat) : Prop := ∃ l : List (Tr × List Tok), foldSeq (l.map (·.1)) = some t ∧ (∀ x ∈ l, Sp 0 x.1 x.2 p b) ∧ LP L (sepBy 59 (l.map (·.2)))
/-- arguments -/
def OkL (as : List Tr) (L : List Nat) (p b : Nat) : Prop := ∃ l : List (Tr × List Tok), l.map (·.1) = as ∧ (∀ x ∈ l, Sp 0 x.1 x.2 p b) ∧ LP L (sepBy 44 (l.map (·.2)))
theorem Ok.more {k t L p b p' b'} (h : Ok k t L p b) (hp : p ≤ p') (hb : b ≤ b') : Ok k t L p' b' := by obtain ⟨ts, h1, h2⟩ := h; exact ⟨ts, h1, h2.more hp hb⟩
theorem Ok.down {k j t L p b} (h : Ok k t L p b) (hj : j ≤ k) : Ok j t L p b := by
  obtain ⟨ts, h1, h2⟩ := h
  refine ⟨ts, h1, Sp.down (k - j) ?_⟩
  rw [show j + (k - j) = k by omega]
  exact h2
theorem Ok.num {n p b} (h : n ≤ 99999) : Ok 4 (.num n) (numT n) p b := ⟨_, LP.tok (t := .num n) h, .num⟩
theorem Ok.str {l p b} (h1 : l.length ≤ 20) (h2 : ∀ c ∈ l, mayB c = true) : Ok 4 (.str l) ([34] ++ l ++ [34]) p b := ⟨_, LP.tok (t := .str l) ⟨h1, h2⟩, .str⟩
theorem Ok.name {l p b} (h : nmB l = true) : Ok 4 (.name l) l p b := ⟨_, LP.tok (t := .word l) (nmB_good h), .name h⟩
theorem OkS.one {t L p b} (h : Ok 0 t L p b) : OkS t L p b := by
  obtain ⟨ts, h1, h2⟩ := h
  exact ⟨[(t, ts)], rfl, fun x hx => by rw [List.mem_singleton.mp hx]; exact h2, h1⟩
theorem OkS.cons {t u L M p b} (g : Nat) (h : Ok 0 t L p b) (k : OkS u M p b) (ht : hgt t ≤ 11) (hu : hgt u ≤ 11) : OkS (.seq t u) (L ++ ([59] ++ (B g ++ M))) p b := by
  obtain ⟨ts, h1, h2⟩ := h
  obtain ⟨l, k1, k2, k3⟩ := k
  have hn : l ≠ [] := fun z => by rw [z] at k1; cases k1
  refine ⟨(t, ts) :: l, ?_, fun x hx => ?_, ?_⟩
  · cases l with
    | nil => exact absurd rfl hn
    | cons y l =>
      show (match foldSeq ((y :: l).map (·.1)) with | none => none | some u => bd (.seq t u)) = _
      rw [k1]
      show bd _ = _
      unfold bd
      rw [if_pos (by rw [hgt]; omega)]
  · rcases List.mem_cons.mp hx with rfl | hx
    · exact h2
    · exact k2 x hx
  · cases l with
    | nil => exact absurd rfl hn
    | cons y l => exact h1.app ((LF.sign (by decide)).appP ((LF.blanks g).appP k3)) (st_sign (by decide) _)
theorem OkS.par {t L p b} (g : Nat) (h : OkS t L p b) : Ok 4 t ([40] ++ (B g ++ (L ++ [41]))) (p + 1) b := by
  obtain ⟨l, k1, k2, k3⟩ := h
  refine ⟨_, ?_, .par k1 k2⟩
  exact (LF.sign (c := 40) (by decide)).appP ((LF.blanks g).appP (k3.app (LF.sign (c := 41) (by decide)).toP (st_sign (by decide) _)))
theorem Ok.par {t L p b} (g : Nat) (h : Ok 0 t L p b) : Ok 4 t ([40] ++ (B g ++ (L ++ [41]))) (p + 1) b := (OkS.one h).par g
theorem OkL.nil {p b} : OkL [] [] p b := ⟨[], rfl, fun x hx => absurd hx List.not_mem_nil, LF.nil.toP⟩
theorem OkL.one {t L p b} (h : Ok 0 t L p b) : OkL [t] L p b := by
  obtain ⟨ts, h1, h2⟩ := h
  exact ⟨[(t, ts)], rfl, fun x hx => by rw [List.mem_singleton.mp hx]; exact h2, h1⟩
theorem OkL.cons {t u as L M p b} (g : Nat) (h : Ok 0 t L p b) (k : OkL (u :: as) M p b) : OkL (t :: u :: as) (L ++ ([44] ++ (B g ++ M))) p b := by
  obtain ⟨ts, h1, h2⟩ := h
  obtain ⟨l, k1, k2, k3⟩ := k
  refine ⟨(t, ts) :: l, by show t :: l.map (·.1) = _; rw [k1], fun x hx => ?_, ?_⟩
  · rcases List.mem_cons.mp hx with rfl | hx
    · exact h2
    · exact k2 x hx
  · cases l with
    | nil => cases k1
    | cons y l => exact h1.app ((LF.sign (by decide)).appP ((LF.blanks g).appP k3)) (st_sign (by decide) _)
theorem Ok.call {f as L p b} (g1 g2 : Nat) (hf : nmB f = true) (h : OkL as L p b) (hh : ∀ t ∈ as, hgt t ≤ 11) : Ok 4 (.call f as) (f ++ (B g1 ++ ([40] ++ (B g2 ++ (L ++ [41]))))) (p + 1) b := by
  obtain ⟨l, k1, k2, k3⟩ := h
  subst k1
  refine ⟨_, ?_, .call hf k2 fun x hx => hh _ (List.mem_map_of_mem hx)⟩
  have q : LP (B g1 ++ ([40] ++ (B g2 ++ (L ++ [41])))) _ :=
    (LF.blanks g1).appP ((LF.sign (c := 40) (by decide)).appP ((LF.blanks g2).appP (k3.app (LF.sign (c := 41) (by decide)).toP (st_sign (by decide) _))))
  exact (LP.tok (t := .word f) (nmB_good hf)).app q (st_gap (st_sign (by decide) _))
theorem ops_sgn {c : Nat} (h : c ∈ [42, 43, 45, 60, 61]) : c ∈ SGN := by
  have : ∀ c ∈ [42, 43, 45, 60, 61], c ∈ SGN := by decide
  exact this c h
def lvlO (c : Nat) : Nat := if c = 61 ∨ c = 60 then 1 else if c = 43 ∨ c = 45 then 2 else 3
/-- which level the left side needs, and the right -/
def lL (c : Nat) : Nat := if lvlO c = 1 then 2 else lvlO c
def lR (c : Nat) : Nat := lvlO c + 1
theorem Ok.op {c t u L M p b} (g1 g2 : Nat) (hc : c ∈ [42, 43, 45, 60, 61]) (h : Ok (lL c) t L p b) (k : Ok (lR c) u M p b) (ht : hgt t ≤ 11) (hu : hgt u ≤ 11) :
    Ok (lvlO c) (.op c t u) (L ++ (B g1 ++ ([c] ++ (B g2 ++ M)))) p b := by
  obtain ⟨ts, h1, h2⟩ := h
  obtain ⟨us, k1, k2⟩ := k
  have q : LP (B g1 ++ ([c] ++ (B g2 ++ M))) ([] ++ ([.sign c] ++ ([] ++ us))) := (LF.blanks g1).appP ((LF.sign (ops_sgn hc)).appP ((LF.blanks g2).appP k1))
  refine ⟨ts ++ (.sign c :: us), h1.app q (st_gap (st_sign (ops_sgn hc) _)), ?_⟩
  simp only [List.mem_cons, List.not_mem_nil, or_false] at hc
  rcases hc with rfl | rfl | rfl | rfl | rfl
  · exact .mul h2 k2 ht hu
  · exact .add (.inl rfl) h2 k2 ht hu
  · exact .add (.inr rfl) h2 k2 ht hu
  · exact .cmp (.inr rfl) h2 k2 ht hu
  · exact .cmp (.inl rfl) h2 k2 ht hu
theorem LF.kw {l : List Nat} (h : good (.word l)) : LF (l ++ [32]) [.word l] := by
  have := (LP.tok h).appF (LF.blanks 1) (st_blank _)
  exact this
theorem Ok.ite {x y z L M N p b} (h : Ok 0 x L p b) (i : Ok 0 y M p b) (j : Ok 0 z N p b) (hx : hgt x ≤ 11) (hy : hgt y ≤ 11) (hz : hgt z ≤ 11) :
    Ok 0 (.ite x y z) (code "if " ++ (L ++ (code " then " ++ (M ++ (code " else " ++ N))))) p (b + 1) := by
  obtain ⟨xs, h1, h2⟩ := h
  obtain ⟨ys, i1, i2⟩ := i
  obtain ⟨zs, j1, j2⟩ := j
  have eI : code "if " = wIf ++ [32] := by decide +kernel
  have eT : code " then " = B 1 ++ (wThen ++ [32]) := by decide +kernel
  have eE : code " else " = B 1 ++ (wElse ++ [32]) := by decide +kernel
  have gd : ∀ w ∈ [wIf, wThen, wElse], w ≠ [] ∧ w.length ≤ 6 ∧ ∀ c ∈ w, c ∈ LET := by decide +kernel
  have kI : LF (code "if ") [.word wIf] := by rw [eI]; exact LF.kw (gd _ (by simp))
  have kT : LF (code " then ") [.word wThen] := by rw [eT]; exact (LF.blanks 1).app (LF.kw (gd _ (by simp)))
  have kE : LF (code " else ") [.word wElse] := by rw [eE]; exact (LF.blanks 1).app (LF.kw (gd _ (by simp)))
  refine ⟨_, kI.appP (h1.app (kT.appP (i1.app (kE.appP j1) (by rw [eE]; exact st_blank _))) (by rw [eT]; exact st_blank _)), .ite h2 i2 j2 hx hy hz⟩
theorem Ok.set {x t L p b} (g1 g2 : Nat) (hn : nmB x = true) (h : Ok 0 t L p b) (ht : hgt t ≤ 11) : Ok 0 (.set x t) (code "set " ++ (x ++ (B g1 ++ ([61] ++ (B g2 ++ L))))) p (b + 1) := by
  obtain ⟨ts, h1, h2⟩ := h
  have eI : code "set " = wSet ++ [32] := by decide +kernel
  have gd : ∀ w ∈ [wSet], w ≠ [] ∧ w.length ≤ 6 ∧ ∀ c ∈ w, c ∈ LET := by decide +kernel
  have kI : LF (code "set ") [.word wSet] := by rw [eI]; exact LF.kw (gd _ (by simp))
  have q : LP (B g1 ++ ([61] ++ (B g2 ++ L))) ([] ++ ([.sign 61] ++ ([] ++ ts))) := (LF.blanks g1).appP ((LF.sign (by decide)).appP ((LF.blanks g2).appP h1))
  refine ⟨_, kI.appP ((LP.tok (t := .word x) (nmB_good hn)).app q (st_gap (st_sign (by decide) _))), .set hn h2 ht⟩
/-- what is read of such a text -/
theorem Ok.lex {k t L p b} (h : Ok k t L p b) (hk : k ≤ 4) (hp : p ≤ 10) (hb : b ≤ 11) : ∃ ts, Lex L (some ts) ∧ parseM ts = some t := by
  obtain ⟨ts, h1, h2⟩ := h.down (Nat.zero_le k)
  have := h1 [] (some []) (fun c r e => by cases e) .nil
  rw [List.append_nil] at this
  have this : Lex L (some (ts ++ [])) := this
  rw [List.append_nil] at this
  exact ⟨ts, this, sp_parse h2 hp hb⟩

/-! ### canonical texts -/
def lvl : Tr → Nat
  | .ite _ _ _ => 0
  | .set _ _ => 0
  | .op c _ _ => lvlO c
  | _ => 4
def inPar (b : Bool) (l : List Nat) : List Nat := if b then [40] ++ (l ++ [41]) else l
mutual
def core : Tr → List Nat
  | .num n => numT n
  | .str l => [34] ++ l ++ [34]
  | .name l => l
  | .call f as => f ++ ([40] ++ (coreL as ++ [41]))
  | .ite a b c => code "if " ++ (core a ++ (code " then " ++ (core b ++ (code " else " ++ core c))))
  | .set x t => code "set " ++ (x ++ ([32, 61, 32] ++ core t))
  | .seq a b => [40] ++ ((core a ++ ([59, 32] ++ rest b)) ++ [41])
  | .op c a b => inPar (decide (lvl a < lL c)) (core a) ++ ([32, c, 32] ++ inPar (decide (lvl b < lR c)) (core b))
def rest : Tr → List Nat
  | .seq a b => core a ++ ([59, 32] ++ rest b)
  | .num n => core (.num n)
  | .str n => core (.str n)
  | .name n => core (.name n)
  | .call f as => f ++ ([40] ++ (coreL as ++ [41]))
  | .ite a b c => code "if " ++ (core a ++ (code " then " ++ (core b ++ (code " else " ++ core c))))
  | .set x t => code "set " ++ (x ++ ([32, 61, 32] ++ core t))
  | .op c a b => inPar (decide (lvl a < lL c)) (core a) ++ ([32, c, 32] ++ inPar (decide (lvl b < lR c)) (core b))
def coreL : List Tr → List Nat
  | [] => []
  | t :: ts => core t ++ coreM ts
def coreM : List Tr → List Nat
  | [] => []
  | t :: ts => [44, 32] ++ (core t ++ coreM ts)
end
def wr (t : Tr) (least : Nat) : List Nat := inPar (decide (lvl t < least)) (core t)
theorem wr0 (t : Tr) : wr t 0 = core t := rfl
/-- a drawn tree -/
inductive Dr : Nat → Tr → Prop
  | num {d n} : n ≤ 99999 → Dr d (.num n)
  | str {d l} : l.length ≤ 12 → (∀ c ∈ l, mayB c = true) → Dr d (.str l)
  | name {d l} : nmB l = true → l.length ≤ 6 → Dr d (.name l)
  | call {d f as} : nmB f = true → f.length ≤ 6 → as.length ≤ 3 → (∀ t ∈ as, Dr d t) → Dr (d + 1) (.call f as)
  | ite {d a b c} : Dr d a → Dr d b → Dr d c → Dr (d + 1) (.ite a b c)
  | set {d x t} : nmB x = true → x.length ≤ 6 → Dr d t → Dr (d + 1) (.set x t)
  | seq {d a b} : Dr d a → Dr d b → Dr (d + 1) (.seq a b)
  | op {d c a b} : c ∈ [42, 43, 45, 60, 61] → Dr d a → Dr d b → Dr (d + 1) (.op c a b)
theorem Dr.hgt {d t} (h : Dr d t) : hgt t ≤ d + 1 := by
  induction h with
  | num => rw [K2.hgt]; omega
  | str => rw [K2.hgt]; omega
  | name => rw [K2.hgt]; omega
  | @call d f as _ _ _ _ ih => rw [K2.hgt]; have := hgtL_le (h := d + 1) (l := as) ih; omega
  | ite _ _ _ i j k => rw [K2.hgt]; omega
  | set _ _ _ i => rw [K2.hgt]; omega
  | seq _ _ i j => rw [K2.hgt]; omega
  | op _ _ _ i j => rw [K2.hgt]; omega
theorem Dr.more {d t} (h : Dr d t) : ∀ {e}, d ≤ e → Dr e t := by
  induction h with
  | num h => exact fun _ => .num h
  | str h k => exact fun _ => .str h k
  | name h k => exact fun _ => .name h k
  | call h k l _ ih => intro e he; obtain ⟨e, rfl⟩ : ∃ x, e = x + 1 := ⟨e - 1, by omega⟩; exact .call h k l fun t ht => ih t ht (by omega)
  | ite _ _ _ i j k => intro e he; obtain ⟨e, rfl⟩ : ∃ x, e = x + 1 := ⟨e - 1, by omega⟩; exact .ite (i (by omega)) (j (by omega)) (k (by omega))
  | set h k _ i => intro e he; obtain ⟨e, rfl⟩ : ∃ x, e = x + 1 := ⟨e - 1, by omega⟩; exact .set h k (i (by omega))
  | seq _ _ i j => intro e he; obtain ⟨e, rfl⟩ : ∃ x, e = x + 1 := ⟨e - 1, by omega⟩; exact .seq (i (by omega)) (j (by omega))
  | op h _ _ i j => intro e he; obtain ⟨e, rfl⟩ : ∃ x, e = x + 1 := ⟨e - 1, by omega⟩; exact .op h (i (by omega)) (j (by omega))
theorem ok_par {t L p b} (h : Ok (lvl t) t L p b) {k : Nat} (hk : k ≤ 4) : Ok k t (inPar (decide (lvl t < k)) L) (p + 1) b := by
  unfold inPar
  by_cases hl : lvl t < k
  · rw [if_pos (decide_eq_true hl)]
    exact (Ok.par 0 (h.down (Nat.zero_le _))).down hk
  · rw [if_neg (by simpa using hl)]
    exact (h.down (by omega)).more (by omega) (Nat.le_refl _)
theorem lL_le (c : Nat) : lL c ≤ 4 ∧ lR c ≤ 4 := by
  unfold lL lR lvlO
  split <;> split <;> (try split) <;> omega
/-- the canonical text of a drawn tree spells it -/
theorem core_ok {d t} (h : Dr d t) (hd : d ≤ 9) : Ok (lvl t) t (core t) d d ∧ OkS t (rest t) d d := by
  have sOf : ∀ {d t}, Ok (lvl t) t (core t) d d → OkS t (core t) d d := fun h => OkS.one (h.down (Nat.zero_le _))
  induction h with
  | num h =>
    rw [rest, core]
    exact ⟨Ok.num h, OkS.one ((Ok.num h).down (Nat.zero_le 4))⟩
  | str h k =>
    rw [rest, core]
    exact ⟨Ok.str (by omega) k, OkS.one ((Ok.str (by omega) k).down (Nat.zero_le 4))⟩
  | name h k =>
    rw [rest, core]
    exact ⟨Ok.name h, OkS.one ((Ok.name h).down (Nat.zero_le 4))⟩
  | @call d f as h k l hs ih =>
    have q : ∀ {as : List Tr}, (∀ t ∈ as, Ok 0 t (core t) d d) → OkL as (coreL as) d d := fun {as} => by
      induction as with
      | nil => intro _; rw [coreL]; exact OkL.nil
      | cons t as i =>
        intro hh
        cases as with
        | nil =>
          have := OkL.one (hh t (by simp))
          rw [coreL, coreM, List.append_nil]
          exact this
        | cons u as =>
          have := OkL.cons 1 (hh t (by simp)) (i fun x hx => hh x (List.mem_cons_of_mem _ hx))
          rw [coreL] at this ⊢
          rw [coreM]
          exact this
    have a : Ok 4 (.call f as) (core (.call f as)) (d + 1) (d + 1) := by
      have := Ok.call 0 0 h (q fun t ht => (ih t ht (by omega)).1.down (Nat.zero_le _)) (fun t ht => by have := (hs t ht).hgt; omega)
      rw [core]
      exact this.more (Nat.le_refl _) (by omega)
    exact ⟨a, by have := OkS.one (a.down (Nat.zero_le 4)); rw [core] at this; rw [rest]; exact this⟩
  | @ite d x y z hx hy hz i j k =>
    have a : Ok 0 (.ite x y z) (core (.ite x y z)) (d + 1) (d + 1) := by
      rw [core]
      exact (Ok.ite ((i (by omega)).1.down (Nat.zero_le _)) ((j (by omega)).1.down (Nat.zero_le _)) ((k (by omega)).1.down (Nat.zero_le _)) (by have := hx.hgt; omega) (by have := hy.hgt; omega) (by have := hz.hgt; omega)).more (by omega) (Nat.le_refl _)
    exact ⟨a, by have := OkS.one a; rw [core] at this; rw [rest]; exact this⟩
  | @set d x t h k ht i =>
    have a : Ok 0 (.set x t) (core (.set x t)) (d + 1) (d + 1) := by
      rw [core]
      exact (Ok.set 1 1 h ((i (by omega)).1.down (Nat.zero_le _)) (by have := ht.hgt; omega)).more (by omega) (Nat.le_refl _)
    exact ⟨a, by have := OkS.one a; rw [core] at this; rw [rest]; exact this⟩
  | @seq d x y hx hy i j =>
    have s : OkS (.seq x y) (core x ++ ([59, 32] ++ rest y)) d d := OkS.cons 1 ((i (by omega)).1.down (Nat.zero_le _)) (j (by omega)).2 (by have := hx.hgt; omega) (by have := hy.hgt; omega)
    refine ⟨?_, ?_⟩
    · rw [core]
      exact (s.par 0).more (Nat.le_refl _) (by omega)
    · rw [rest]
      obtain ⟨l, h1, h2, h3⟩ := s
      exact ⟨l, h1, fun x hx => (h2 x hx).more (by omega) (by omega), h3⟩
  | @op d c x y hc hx hy i j =>
    have a : Ok (lvlO c) (.op c x y) (core (.op c x y)) (d + 1) (d + 1) := by
      rw [core]
      exact (Ok.op 1 1 hc (ok_par (i (by omega)).1 (lL_le c).1) (ok_par (j (by omega)).1 (lL_le c).2) (by have := hx.hgt; omega) (by have := hy.hgt; omega)).more (Nat.le_refl _) (by omega)
    exact ⟨a, by have := OkS.one (a.down (Nat.zero_le _)); rw [core] at this; rw [rest]; exact this⟩
/-- how long it is -/
def most : Nat → Nat
  | 0 => 14
  | d + 1 => 3 * most d + 20
theorem core_len {d t} (h : Dr d t) : (core t).length ≤ most d ∧ (rest t).length ≤ most d := by
  have m0 : ∀ d, 14 ≤ most d := fun d => by cases d <;> (unfold most; omega)
  have ip : ∀ b l, (inPar b l).length ≤ l.length + 2 := fun b l => by unfold inPar; split <;> simp
  have eI : (code "if ").length = 3 := by decide +kernel
  have eT : (code " then ").length = 6 := by decide +kernel
  have eE : (code " else ").length = 6 := by decide +kernel
  have eS : (code "set ").length = 4 := by decide +kernel
  induction h with
  | @num d n h => rw [rest, core]; have := (numT_dig h).2.1; have := m0 d; omega
  | @str d l h k => rw [rest, core]; have := m0 d; simp; omega
  | @name d l h k => rw [rest, core]; have := m0 d; omega
  | @call d f as h k l hs ih =>
    have q : ∀ {as : List Tr}, (∀ t ∈ as, (core t).length ≤ most d) → (coreM as).length ≤ as.length * (most d + 2) := fun {as} => by
      induction as with
      | nil => intro _; rw [coreM]; simp
      | cons t as i =>
        intro hh
        rw [coreM]
        have h1 := hh t (by simp)
        have h2 := i fun x hx => hh x (List.mem_cons_of_mem _ hx)
        have e : (t :: as).length * (most d + 2) = as.length * (most d + 2) + (most d + 2) := by rw [List.length_cons, Nat.add_mul, Nat.one_mul]
        simp only [List.length_append, List.length_cons, List.length_nil] at h1 h2 e ⊢
        omega
    have h3 : (coreL as).length ≤ 3 * (most d + 2) := by
      cases as with
      | nil => rw [coreL]; simp
      | cons t as =>
        rw [coreL, List.length_append]
        have h1 := (ih t (by simp)).1
        have h2 := q (as := as) fun x hx => (ih x (List.mem_cons_of_mem _ hx)).1
        have h4 : as.length ≤ 2 := by simpa using l
        have h5 : as.length * (most d + 2) ≤ 2 * (most d + 2) := Nat.mul_le_mul_right _ h4
        omega
    have a : (core (.call f as)).length ≤ most (d + 1) := by
      rw [core, most]
      simp only [List.length_append, List.length_cons, List.length_nil]
      omega
    refine ⟨a, ?_⟩
    rw [core] at a
    rw [rest]
    exact a
  | @ite d x y z hx hy hz i j k =>
    rw [rest, core, most]
    simp only [List.length_append]
    omega
  | @set d x t h k ht i =>
    rw [rest, core, most]
    simp only [List.length_append, List.length_cons, List.length_nil]
    omega
  | @seq d x y hx hy i j =>
    rw [rest, core, most]
    simp only [List.length_append, List.length_cons, List.length_nil]
    omega
  | @op d c x y hc hx hy i j =>
    rw [rest, core, most]
    have := ip (decide (lvl x < lL c)) (core x)
    have := ip (decide (lvl y < lR c)) (core y)
    simp only [List.length_append, List.length_cons, List.length_nil]
    omega
end K2

set_option maxRecDepth 100000
set_option maxHeartbeats 4000000
/-! written texts: split and parsed by the kernel -/
namespace K2
open PySem hiding Tok
open K1
def lexF : Nat → List Nat → Option (List Tok)
  | _, [] => some []
  | 0, _ :: _ => none
  | n + 1, c :: r => if c = 32 then lexF n r else (match lexC c r with
    | none => none
    | some (t, k) => (lexF n ((c :: r).drop k)).map (t :: ·))
theorem lexF_ok : ∀ (n : Nat) (l : List Nat), l.length ≤ n → Lex l (lexF n l)
  | n, [], _ => by
    cases n <;> (unfold lexF; exact .nil)
  | 0, _ :: _, h => by simp at h
  | n + 1, c :: r, h => by
    have hr : r.length ≤ n := by simpa using h
    rw [lexF]
    by_cases hc : c = 32
    · rw [if_pos hc]
      subst hc
      exact .sp (lexF_ok n r hr)
    · rw [if_neg hc]
      cases e : lexC c r with
      | none => exact .bad hc e
      | some tk =>
        obtain ⟨t, k⟩ := tk
        have hk := lexC_pos e
        exact .tok hc e (lexF_ok n _ (by rw [List.length_drop, List.length_cons]; omega))
/-- what is read of a written text -/
def readT (l : List Nat) : Option (Option Tr) := (lexF l.length l).map parseM
def badT (s : Str) : Bool := match readT (code s) with
  | some none => true
  | _ => false
theorem bads_none : ∀ s ∈ (["set let = 1", "(a;)", "(;a)", "f(;)", "f(a;b", "if a then b", "set a", "a b", "let(1)", "set 1 = a", "f(1,,2)", "set f(1) = 2"] : List Str), badT s = true := by decide +kernel
theorem lasts_none : ∀ s ∈ (["", "a = b = c", "let", "f(a,)", "()"] : List Str), badT s = true := by decide +kernel
theorem badT_lex {s : Str} (h : badT s = true) : ∃ ts, Lex (code s) (some ts) ∧ parseM ts = none := by
  have lx := lexF_ok (code s).length (code s) (Nat.le_refl _)
  unfold badT readT at h
  cases e : lexF (code s).length (code s) with
  | none => rw [e] at h; cases h
  | some ts =>
    rw [e] at h lx
    refine ⟨ts, lx, ?_⟩
    cases e2 : parseM ts with
    | none => rfl
    | some t =>
      have h : (match some (parseM ts) with | some none => true | _ => false) = true := h
      rw [e2] at h
      cases h
/-! the bounds -/
def rep (n : Nat) (l : List Nat) : List Nat := (List.replicate n l).flatten
def deepT (n : Nat) : List Nat := rep n [40] ++ ([97] ++ rep n [41])
def callsT (n : Nat) : List Nat := rep n [102, 40] ++ rep n [41]
def rowT (n : Nat) : List Nat := [49] ++ rep n [32, 43, 32, 49]
def isA : Tr → Bool
  | .name l => l == [97]
  | _ => false
theorem deep_ok : (match readT (deepT 10) with | some (some t) => isA t | _ => false) = true := by decide +kernel
theorem deep_no : (match readT (deepT 11) with | some none => true | _ => false) = true := by decide +kernel
theorem calls_ok : (match readT (callsT 10) with | some (some _) => true | _ => false) = true := by decide +kernel
theorem calls_no : (match readT (callsT 11) with | some none => true | _ => false) = true := by decide +kernel
theorem row_ok : (match readT (rowT 11) with | some (some t) => hgt t == 12 | _ => false) = true := by decide +kernel
theorem row_no : (match readT (rowT 12) with | some none => true | _ => false) = true := by decide +kernel
end K2

set_option maxRecDepth 100000
set_option maxHeartbeats 4000000
/-! the reader, its small methods -/
namespace K3
open PySem hiding Tok
open PySem.Spec PyProof.Rows L2 GD K1
open K2 hiding Sp P
abbrev cRead : Stmt := topS 28
abbrev mInit : Stmt := inClass cRead 0
abbrev mAtEnd : Stmt := inClass cRead 1
abbrev mNext : Stmt := inClass cRead 2
abbrev mAccept : Stmt := inClass cRead 3
abbrev mExpect : Stmt := inClass cRead 4
abbrev mTake : Stmt := inClass cRead 5
abbrev mAccSign : Stmt := inClass cRead 6
instance decTok : DecidableEq K1.Tok
  | .word a, .word b => if h : a = b then .isTrue (by rw [h]) else .isFalse (fun e => h (by cases e; rfl))
  | .word _, .num _ => .isFalse (fun e => by cases e)
  | .word _, .str _ => .isFalse (fun e => by cases e)
  | .word _, .sign _ => .isFalse (fun e => by cases e)
  | .num _, .word _ => .isFalse (fun e => by cases e)
  | .num a, .num b => if h : a = b then .isTrue (by rw [h]) else .isFalse (fun e => h (by cases e; rfl))
  | .num _, .str _ => .isFalse (fun e => by cases e)
  | .num _, .sign _ => .isFalse (fun e => by cases e)
  | .str _, .word _ => .isFalse (fun e => by cases e)
  | .str _, .num _ => .isFalse (fun e => by cases e)
  | .str a, .str b => if h : a = b then .isTrue (by rw [h]) else .isFalse (fun e => h (by cases e; rfl))
  | .str _, .sign _ => .isFalse (fun e => by cases e)
  | .sign _, .word _ => .isFalse (fun e => by cases e)
  | .sign _, .num _ => .isFalse (fun e => by cases e)
  | .sign _, .str _ => .isFalse (fun e => by cases e)
  | .sign a, .sign b => if h : a = b then .isTrue (by rw [h]) else .isFalse (fun e => h (by cases e; rfl))
/-- what the top has written for the reader -/
structure TxR (K : PySem.W.Frag) (mg : Str → Option Value) (C CN : Addr) : Prop where
  cl : Cls K C
  nT : NoAttr K C "tokens"
  nA : NoAttr K C "at"
  nN : NoAttr K C "nested"
  nB : NoAttr K C "branches"
  gC : mg "Reader" = some (.ref C)
  gN : mg "NoExpression" = some (.ref CN)
  xN : PySem.W.excIn K CN [.type "ValueError", .type "Exception", .type "BaseException", .type "object"] "ValueError.__new__" = true
  kN : PySem.W.keepIn K (.ref CN) = true
  bN : PySem.W.subIn K (.ref CN) (.type "BaseException") = some true
  tN : PySem.W.typeIn K (.ref CN) = some (.type "type")
  eN : PySem.W.exmOne K (.ref CN) (.ref CN) = some true
  NESTED : ∃ t, mg "NESTED_MOST" = some (.int 10 t)
  HEIGHT : ∃ t, mg "HEIGHT_MOST" = some (.int 12 t)
  OPENING : ∃ a, mg "OPENING" = some (.ref a) ∧ ∀ H, SqT K H a [.str "sign", .str "("]
  CLOSING : ∃ a, mg "CLOSING" = some (.ref a) ∧ ∀ H, SqT K H a [.str "sign", .str ")"]
def rF (L : Addr) (a n b : Nat) : List (Str × V) := [("tokens", .ref L), ("at", .int a), ("nested", .int n), ("branches", .int b)]
theorem rF_tok (L : Addr) (a n b : Nat) : (rF L a n b).lookup ("tokens" : Str) = some (.ref L) := by simp [rF, List.lookup]
theorem lk_past {k g : Str} {v : V} {r : List (Str × V)} (h : (k == g) = false) : List.lookup k ((g, v) :: r) = List.lookup k r := by simp only [List.lookup, h]
theorem lk_here {k : Str} {v : V} {r : List (Str × V)} : List.lookup k ((k, v) :: r) = some v := by
  have e : (k == k) = true := beq_self_eq_true k
  simp only [List.lookup, e]
theorem rF_at (L : Addr) (a n b : Nat) : (rF L a n b).lookup ("at" : Str) = some (.int a) := (lk_past (by decide +kernel)).trans lk_here
theorem rF_nest (L : Addr) (a n b : Nat) : (rF L a n b).lookup ("nested" : Str) = some (.int n) := (lk_past (by decide +kernel)).trans ((lk_past (by decide +kernel)).trans lk_here)
theorem rF_br (L : Addr) (a n b : Nat) : (rF L a n b).lookup ("branches" : Str) = some (.int b) := (lk_past (by decide +kernel)).trans ((lk_past (by decide +kernel)).trans ((lk_past (by decide +kernel)).trans lk_here))
theorem rF_no {m : Str} (h1 : (m == ("tokens" : Str)) = false) (h2 : (m == ("at" : Str)) = false) (h3 : (m == ("nested" : Str)) = false) (h4 : (m == ("branches" : Str)) = false) (L : Addr) (a n b : Nat) : (rF L a n b).lookup m = none :=
  (lk_past h1).trans ((lk_past h2).trans ((lk_past h3).trans ((lk_past h4).trans rfl)))
theorem put_past {f g : Str} {v x : V} {r : List (Str × V)} (h : ¬ g = f) : putF f v ((g, x) :: r) = (g, x) :: putF f v r := if_neg h
theorem put_here {f : Str} {v x : V} {r : List (Str × V)} : putF f v ((f, x) :: r) = (f, v) :: r := if_pos rfl
theorem rF_pAt (L : Addr) (a n b c : Nat) : putF "at" (.int c) (rF L a n b) = rF L c n b := (put_past (by decide +kernel)).trans (congrArg _ put_here)
theorem rF_pN (L : Addr) (a n b c : Nat) : putF "nested" (.int c) (rF L a n b) = rF L a c b := (put_past (by decide +kernel)).trans (congrArg _ ((put_past (by decide +kernel)).trans (congrArg _ put_here)))
theorem rF_pB (L : Addr) (a n b c : Nat) : putF "branches" (.int c) (rF L a n b) = rF L a n c :=
  (put_past (by decide +kernel)).trans (congrArg _ ((put_past (by decide +kernel)).trans (congrArg _ ((put_past (by decide +kernel)).trans (congrArg _ put_here)))))
/-- the reader at p stands ahead of the a-th of the tokens ts -/
structure RS (C RL p : Addr) (H : Hp) (ts : List Tok) (a n b : Nat) : Prop where
  ex : ∃ L dx vs, H p = some (.ins C dx (rF L a n b)) ∧ H L = some (.lst vs) ∧ TokL H vs ts
  le : a ≤ ts.length
  sm : ts.length ≤ 5000
  sh : ∀ t ∈ ts, SeqAt.shaped (tokD t) = true
  wd : ∀ l, Tok.word l ∈ ts → l.length ≤ 5000
  ll : ∃ dx, H p = some (.ins C dx (rF RL a n b))
/-- all is kept but the object at p -/
def K1p (p : Addr) (H H' : Hp) : Prop := ∀ b o, b ≠ p → H b = some o → H' b = some o
theorem K1p.refl (p : Addr) (H : Hp) : K1p p H H := fun _ _ _ h => h
theorem K1p.trans {p : Addr} {H H1 H2 : Hp} (x : K1p p H H1) (y : K1p p H1 H2) : K1p p H H2 := fun b o n h => y b o n (x b o n h)
theorem K1p.put {p : Addr} {H : Hp} {o : HO} : K1p p H (upd H p o) := fun b u n h => by rw [upd_ne n]; exact h
theorem K1p.new {p l : Addr} {H : Hp} {o : HO} (h : H l = none) : K1p p H (upd H l o) := fun b u n k => by rw [upd_ne (ne_of_none k h)]; exact k
theorem RS.mv {C RL p : Addr} {H H' : Hp} {ts : List Tok} {a n b a' n' b' : Nat} {L dx : Addr} (h : RS C RL p H ts a n b) (e : H p = some (.ins C dx (rF L a n b))) (k : K1p p H H') (e' : ∃ dx', H' p = some (.ins C dx' (rF L a' n' b'))) (le : a' ≤ ts.length) : RS C RL p H' ts a' n' b' := by
  obtain ⟨L0, dx0, vs, h1, h2, h3⟩ := h.ex
  rw [e] at h1
  cases h1
  obtain ⟨dx', e'⟩ := e'
  have eL : rF RL a' n' b' = rF L a' n' b' := by
    obtain ⟨d9, e9⟩ := h.ll
    rw [e] at e9
    have e9 := Option.some.inj e9
    have e9 : rF L a n b = rF RL a n b := by injection e9
    have e9 : L = RL := by
      have := congrArg (fun l : List (Str × V) => l.head?.map (·.2)) e9
      have this : some (V.ref L) = some (V.ref RL) := this
      injection this with this
      injection this
    rw [e9]
  exact ⟨⟨_, dx', vs, e', k _ _ (ne_of h2 e (by intro z; cases z)) h2, h3.imp fun q t hq => k _ _ (ne_of hq e (by intro z; cases z)) hq⟩, le, h.sm, h.sh, h.wd, dx', by rw [e', eL]⟩
theorem RS.keep {C RL p : Addr} {H H' : Hp} {ts : List Tok} {a n b : Nat} (h : RS C RL p H ts a n b) (k : ∀ b o, H b = some o → H' b = some o) : RS C RL p H' ts a n b := by
  obtain ⟨L, dx, vs, h1, h2, h3⟩ := h.ex
  exact ⟨⟨L, dx, vs, k _ _ h1, k _ _ h2, h3.imp fun q t hq => k _ _ hq⟩, h.le, h.sm, h.sh, h.wd, let ⟨d, e⟩ := h.ll; ⟨d, k _ _ e⟩⟩
theorem RS.new {C RL p l : Addr} {H : Hp} {ts : List Tok} {a n b : Nat} {o : HO} (h : RS C RL p H ts a n b) (nl : H l = none) : RS C RL p (upd H l o) ts a n b :=
  h.keep fun b u e => by rw [upd_ne (ne_of_none e nl)]; exact e
/-- equality of tokens as data -/
theorem eqv_ss (a b c d : Str) : PyData.eqv (.tuple [.str a, .str b]) (.tuple [.str c, .str d]) = (a == c && (b == d && true)) := by
  simp only [PyData.eqv, PyData.eqvAll]
theorem eqv_is (a : Str) (b : Int) (c d : Str) : PyData.eqv (.tuple [.str a, .int b]) (.tuple [.str c, .str d]) = (a == c && (false && true)) := by
  simp only [PyData.eqv, PyData.eqvAll]
theorem S_beq (l m : List Nat) : (S l == S m) = decide (l = m) := by
  by_cases h : l = m
  · rw [h, decide_eq_true rfl]
    exact beq_self_eq_true _
  · rw [decide_eq_false h]
    exact beq_eq_false_iff_ne.mpr fun z => h (S_inj z)
theorem tok_eqv {t u : Tok} (h : (∃ c, u = .sign c) ∨ (∃ l, u = .word l)) : PyData.eqv (tokD t) (tokD u) = decide (t = u) := by
  rcases h with ⟨c, rfl⟩ | ⟨l, rfl⟩
  · cases t with
    | word m => exact (eqv_ss _ _ _ _).trans (by rw [show (("word" : Str) == "sign") = false by decide +kernel]; exact (decide_eq_false (by intro z; cases z)).symm)
    | str m => exact (eqv_ss _ _ _ _).trans (by rw [show (("string" : Str) == "sign") = false by decide +kernel]; exact (decide_eq_false (by intro z; cases z)).symm)
    | num m => exact (eqv_is _ _ _ _).trans (by rw [Bool.false_and, Bool.and_false]; exact (decide_eq_false (by intro z; cases z)).symm)
    | sign m =>
      refine (eqv_ss _ _ _ _).trans ?_
      rw [beq_self_eq_true, Bool.true_and, Bool.and_true, S_beq]
      simp
  · cases t with
    | sign m => exact (eqv_ss _ _ _ _).trans (by rw [show (("sign" : Str) == "word") = false by decide +kernel]; exact (decide_eq_false (by intro z; cases z)).symm)
    | str m => exact (eqv_ss _ _ _ _).trans (by rw [show (("string" : Str) == "word") = false by decide +kernel]; exact (decide_eq_false (by intro z; cases z)).symm)
    | num m => exact (eqv_is _ _ _ _).trans (by rw [Bool.false_and, Bool.and_false]; exact (decide_eq_false (by intro z; cases z)).symm)
    | word m =>
      refine (eqv_ss _ _ _ _).trans ?_
      rw [beq_self_eq_true, Bool.true_and, Bool.and_true, S_beq]
      simp
section
variable {P : Program} {w : World} {K : PySem.W.Frag} {mg : Str → Option Value} {base : Heap} {C CN RL : Addr}
theorem passE {N : List Str} {q : Str} {sc : Scope} {f : Addr} {cdv : Value} {A : Around} {outer : List Env} {s : Shared} {H : Hp} {E : XK} :
    Passes (L2.CX P w) (cxOf (L2.CX P w) P w K mg base N q sc f cdv A outer s H E) E := fun pins σ H' s1 e s2 I c =>
  passAt (X := cxOf (L2.CX P w) P w K mg base N q sc f cdv A outer s H E) (W := fun cls d _ H => E cls d H) (takes_of rfl rfl rfl rfl) σ pins H' s1 e s2 I c
theorem TokL.get3 {H : Hp} {vs : List V} {ts : List Tok} (h : TokL H vs ts) : ∀ {i : Nat} {t : Tok}, ts[i]? = some t → ∃ q, vs[i]? = some (.ref q) ∧ H q = some (.tup (tokV t)) := by
  induction h with
  | nil => intro i t h; cases h
  | @cons v u vs ts r _ ih =>
    intro i t h
    cases i with
    | zero => cases h; obtain ⟨q, e, hq⟩ := r; exact ⟨q, by rw [e]; rfl, hq⟩
    | succ i => exact ih h
/-- a method, with its promise -/
structure MO (P : Program) (w : World) (K : PySem.W.Frag) (mg : Str → Option Value) (base : Heap) (CX : CXT) (k : Nat) (C : Addr) (m : Str) (ps : List Str) (sp : Sp) (f : Addr) (fd : FuncData) : Prop where
  mt : Meth K C m f
  bi : Binds K fd ps []
  ok : FnOk P w K mg base CX k f fd ps sp
/-! ### at_end -/
def spAtEnd (C RL : Addr) : Sp := fun vs H Q _ => ∃ p ts a n b, vs = [.ref p] ∧ RS C RL p H ts a n b ∧ Q (.bl (decide (a = ts.length))) H
theorem scAtEnd : FnScope ["self"] ["self"] (defScope mAtEnd) := ⟨rfl, rfl, rfl, by decide +kernel, rfl, by decide +kernel, by decide +kernel⟩
theorem ok_atEnd {f : Addr} {fd : FuncData} (F : Fun K "at_end" "Reader.at_end" mAtEnd f fd) (T : Txt K mg) (R : TxR K mg C CN) : FnOk P w K mg base CX0 1 f fd ["self"] (spAtEnd C RL) := by
  have sc := scAtEnd
  refine F.ok sc (fun vs H Q E h => ?_) (fun cdv A outer s H vs Q E hr h => ?_)
  · obtain ⟨p, ts, a, n, b, rfl, _⟩ := h
    rfl
  · obtain ⟨p, ts, a, n, b, rfl, rs, q⟩ := h
    obtain ⟨L, dx, vs, h1, h2, h3⟩ := rs.ex
    refine ⟨_, pss_one (ps_ret (pe_cmpR op_eq (pe_fld (pv 0) rfl) (pe_callB call_len_seq (by rfl) T.len (by decide +kernel) (pa_cons (pe_fld (pv 0) rfl) pa_nil)) (nomark _))), ?_⟩
    refine ⟨_, rfl, p, C, dx, _, _, rfl, h1, R.cl, R.nA, rF_at _ _ _ _, _, rfl, p, C, dx, _, _, rfl, h1, R.cl, R.nT, rF_tok _ _ _ _, L, _, rfl, .inl (SqL.of h2), ?_⟩
    refine ⟨rfl, ?_⟩
    have e : decide ((V.int (a : Nat)) = V.int (vs.length : Nat)) = decide (a = ts.length) := by
      rw [Paired.length h3]
      by_cases z : a = ts.length
      · rw [decide_eq_true z, z]
        exact decide_eq_true rfl
      · rw [decide_eq_false z]
        exact decide_eq_false fun y => z (by injection y with y; exact Int.ofNat.inj y)
    exact e ▸ q
/-! ### next_is, accept -/
def simpleT (tk : Tok) : Prop := ((∃ c, tk = .sign c) ∨ (∃ l, tk = .word l)) ∧ SeqAt.shaped (tokD tk) = true
def spNext (K : PySem.W.Frag) (C RL : Addr) : Sp := fun vs H Q _ => ∃ p ts a n b y tk, vs = [.ref p, y] ∧ RS C RL p H ts a n b ∧ Dp K H y (tokD tk) ∧ simpleT tk ∧ Q (.bl (decide (ts[a]? = some tk))) H
theorem scNext : FnScope ["self", "token"] ["self", "token"] (defScope mNext) := ⟨rfl, rfl, rfl, by decide +kernel, rfl, by decide +kernel, by decide +kernel⟩
theorem ok_next {f f1 : Addr} {fd fd1 : FuncData} (F : Fun K "next_is" "Reader.next_is" mNext f fd) (T : Txt K mg) (R : TxR K mg C CN) (M1 : MO P w K mg base CX0 1 C "at_end" ["self"] (spAtEnd C RL) f1 fd1) :
    FnOk P w K mg base CX0 2 f fd ["self", "token"] (spNext K C RL) := by
  have sc := scNext
  refine F.ok sc (fun vs H Q E h => ?_) (fun cdv A outer s H vs Q E hr h => ?_)
  · obtain ⟨p, ts, a, n, b, y, tk, rfl, _⟩ := h
    rfl
  · obtain ⟨p, ts, a, n, b, y, tk, rfl, rs, hy, ht, q⟩ := h
    obtain ⟨L, dx, vs, h1, h2, h3⟩ := rs.ex
    refine ⟨_, pss_one (ps_ret (pe_and (pe_not (pe_meth0 (pv 0) R.cl M1.mt M1.ok hr M1.bi .nil pass0)) (pe_one (pe_cmpR (op_eqD hr.units) (pe_ix ix_list (pe_fld (pv 0) rfl) (pe_fld (pv 0) rfl) (fun _ _ => rfl)) (pv 1) (nomark _))))), ?_⟩
    refine ⟨_, rfl, p, dx, _, rfl, h1, rF_no (by decide +kernel) (by decide +kernel) (by decide +kernel) (by decide +kernel) _ _ _ _, p, ts, a, n, b, rfl, rs, ?_⟩
    refine ⟨_, rfl, _, rfl, ?_⟩
    by_cases z : a = ts.length
    · rw [decide_eq_true z]
      have : ts[a]? = none := by rw [z]; exact List.getElem?_eq_none (Nat.le_refl _)
      rw [this] at q
      exact iteF q
    · rw [decide_eq_false z]
      refine iteT ?_
      have lt : a < ts.length := by have := rs.le; omega
      obtain ⟨u, hu⟩ : ∃ u, ts[a]? = some u := ⟨_, List.getElem?_eq_getElem lt⟩
      obtain ⟨q', e1, e2⟩ : ∃ q', vs[a]? = some (.ref q') ∧ H q' = some (.tup (tokV u)) := TokL.get3 h3 hu
      refine ⟨_, rfl, p, C, dx, _, _, rfl, h1, R.cl, R.nT, rF_tok _ _ _ _, _, rfl, p, C, dx, _, _, rfl, h1, R.cl, R.nA, rF_at _ _ _ _, L, _, _, _, rfl, rfl, SqL.of h2, atI_nat e1, y, rfl, _, _, tokD_dp e2, hy, rs.sh _ (List.mem_of_getElem? hu), ht.2, ?_⟩
      rw [tok_eqv ht.1]
      rw [hu] at q
      have e : decide (some u = some tk) = decide (u = tk) := by simp
      rw [e] at q
      exact q
def spAccept (K : PySem.W.Frag) (C RL : Addr) : Sp := fun vs H Q _ => ∃ p ts a n b y tk, vs = [.ref p, y] ∧ RS C RL p H ts a n b ∧ Dp K H y (tokD tk) ∧ simpleT tk ∧
  (ts[a]? ≠ some tk → Q (.bl false) H) ∧ (ts[a]? = some tk → ∀ H', RS C RL p H' ts (a + 1) n b → K1p p H H' → Q (.bl true) H')
theorem scAccept : FnScope ["self", "token"] ["self", "token"] (defScope mAccept) := ⟨rfl, rfl, rfl, by decide +kernel, rfl, by decide +kernel, by decide +kernel⟩
theorem RS.step {p : Addr} {H : Hp} {ts : List Tok} {a n b : Nat} {L dx : Addr} (h : RS C RL p H ts a n b) (e : H p = some (.ins C dx (rF L a n b))) (lt : a < ts.length) :
    RS C RL p (upd H p (.ins C dx (putF "at" (.int ((a : Int) + 1)) (rF L a n b)))) ts (a + 1) n b :=
  h.mv e K1p.put ⟨dx, by rw [upd_same]; exact congrArg (fun q => some (HO.ins C dx q)) (rF_pAt L a n b (a + 1))⟩ lt
theorem ok_accept {f f1 : Addr} {fd fd1 : FuncData} (F : Fun K "accept" "Reader.accept" mAccept f fd) (R : TxR K mg C CN) (M1 : MO P w K mg base CX0 2 C "next_is" ["self", "token"] (spNext K C RL) f1 fd1) :
    FnOk P w K mg base CX0 3 f fd ["self", "token"] (spAccept K C RL) := by
  have sc := scAccept
  refine F.ok sc (fun vs H Q E h => ?_) (fun cdv A outer s H vs Q E hr h => ?_)
  · obtain ⟨p, ts, a, n, b, y, tk, rfl, _⟩ := h
    rfl
  · obtain ⟨p, ts, a, n, b, y, tk, rfl, rs, hy, ht, q1, q2⟩ := h
    obtain ⟨L, dx, vs, h1, h2, h3⟩ := rs.ex
    refine ⟨_, pss_cons (ps_if (pt_not (pt_val (pe_meth (pv 0) R.cl M1.mt M1.ok hr M1.bi .nil pass0 (pa_cons (pv 1) pa_nil)))) (pss_one (ps_ret pe_bl)) pss_nil) (pss_cons (ps_fldaug (pv 0) pe_int in_add) (pss_one (ps_ret pe_bl))), ?_⟩
    refine ⟨_, rfl, p, dx, _, rfl, h1, rF_no (by decide +kernel) (by decide +kernel) (by decide +kernel) (by decide +kernel) _ _ _ _, _, rfl, p, ts, a, n, b, y, tk, rfl, rs, hy, ht, _, rfl, ?_⟩
    by_cases z : ts[a]? = some tk
    · rw [decide_eq_true z]
      refine iteF ?_
      have lt : a < ts.length := (List.getElem?_eq_some_iff.mp z).1
      refine ⟨_, rfl, p, C, dx, _, _, rfl, h1, R.cl, R.nA, rF_at _ _ _ _, _, _, rfl, rfl, dx, _, h1, (by show 4 < 1000; decide), ?_⟩
      exact q2 z _ (rs.step h1 lt) K1p.put
    · rw [decide_eq_false z]
      exact iteT (q1 z)
/-! ### expect, take -/
def spExpect (K : PySem.W.Frag) (C CN RL : Addr) : Sp := fun vs H Q E => ∃ p ts a n b y tk, vs = [.ref p, y] ∧ RS C RL p H ts a n b ∧ Dp K H y (tokD tk) ∧ simpleT tk ∧
  (ts[a]? ≠ some tk → E (.ref CN) none H) ∧ (ts[a]? = some tk → ∀ H', RS C RL p H' ts (a + 1) n b → K1p p H H' → Q .non H')
theorem scExpect : FnScope ["self", "token"] ["self", "token"] (defScope mExpect) := ⟨rfl, rfl, rfl, by decide +kernel, rfl, by decide +kernel, by decide +kernel⟩
theorem ok_expect {f f1 : Addr} {fd fd1 : FuncData} (F : Fun K "expect" "Reader.expect" mExpect f fd) (R : TxR K mg C CN) (M1 : MO P w K mg base CX0 3 C "accept" ["self", "token"] (spAccept K C RL) f1 fd1) :
    FnOk P w K mg base (L2.CX P w) 4 f fd ["self", "token"] (spExpect K C CN RL) := by
  have sc := scExpect
  refine F.okX sc (fun vs H Q E h => ?_) (fun cdv A outer s H vs Q E hr h => ?_)
  · obtain ⟨p, ts, a, n, b, y, tk, rfl, _⟩ := h
    rfl
  · obtain ⟨p, ts, a, n, b, y, tk, rfl, rs, hy, ht, q1, q2⟩ := h
    obtain ⟨L, dx, vs, h1, h2, h3⟩ := rs.ex
    refine ⟨_, pss_one (ps_if (pt_not (pt_val (pe_meth (pv 0) R.cl M1.mt M1.ok hr M1.bi .nil pass0 (pa_cons (pv 1) pa_nil)))) (pss_one (ps_raise rfl (takes_of rfl rfl rfl rfl) (pmk_own PySem.F.excBase_ValueError R.xN R.gN R.kN (raises_own R.bN R.tN) rfl))) pss_nil), ?_⟩
    refine ⟨_, rfl, p, dx, _, rfl, h1, rF_no (by decide +kernel) (by decide +kernel) (by decide +kernel) (by decide +kernel) _ _ _ _, _, rfl, p, ts, a, n, b, y, tk, rfl, rs, hy, ht, fun z => ?_, fun z H' rs' k => ?_⟩
    · exact ⟨_, rfl, iteT (q1 z)⟩
    · exact ⟨_, rfl, iteF (q2 z H' rs' k)⟩
def spTake (C CN RL : Addr) : Sp := fun vs H Q E => ∃ p ts a n b, vs = [.ref p] ∧ RS C RL p H ts a n b ∧
  (ts[a]? = none → E (.ref CN) none H) ∧ (∀ t, ts[a]? = some t → ∀ H' q, RS C RL p H' ts (a + 1) n b → K1p p H H' → H' q = some (.tup (tokV t)) → Q (.ref q) H')
theorem scTake : FnScope ["self"] ["self"] (defScope mTake) := ⟨rfl, rfl, rfl, by decide +kernel, rfl, by decide +kernel, by decide +kernel⟩
theorem ok_take {f f1 : Addr} {fd fd1 : FuncData} (F : Fun K "take" "Reader.take" mTake f fd) (R : TxR K mg C CN) (M1 : MO P w K mg base CX0 1 C "at_end" ["self"] (spAtEnd C RL) f1 fd1) :
    FnOk P w K mg base (L2.CX P w) 4 f fd ["self"] (spTake C CN RL) := by
  have sc := scTake
  refine F.okX sc (fun vs H Q E h => ?_) (fun cdv A outer s H vs Q E hr h => ?_)
  · obtain ⟨p, ts, a, n, b, rfl, _⟩ := h
    rfl
  · obtain ⟨p, ts, a, n, b, rfl, rs, q1, q2⟩ := h
    obtain ⟨L, dx, vs, h1, h2, h3⟩ := rs.ex
    have hr1 : Room 1 _ := hr.mono (by decide)
    refine ⟨_, pss_cons (ps_if (pt_val (pe_meth0 (pv 0) R.cl M1.mt M1.ok hr1 M1.bi .nil pass0)) (pss_one (ps_raise rfl (takes_of rfl rfl rfl rfl) (pmk_own PySem.F.excBase_ValueError R.xN R.gN R.kN (raises_own R.bN R.tN) rfl))) pss_nil)
      (pss_cons (ps_fldaug (pv 0) pe_int in_add) (pss_one (ps_ret (pe_ix ix_list (pe_fld (pv 0) rfl) (pe_op op_sub (pe_fld (pv 0) rfl) pe_int) (fun _ _ => rfl))))), ?_⟩
    refine ⟨_, rfl, p, dx, _, rfl, h1, rF_no (by decide +kernel) (by decide +kernel) (by decide +kernel) (by decide +kernel) _ _ _ _, p, ts, a, n, b, rfl, rs, _, rfl, ?_⟩
    by_cases z : a = ts.length
    · rw [decide_eq_true z]
      exact iteT (q1 (by rw [z]; exact List.getElem?_eq_none (Nat.le_refl _)))
    · rw [decide_eq_false z]
      refine iteF ?_
      have lt : a < ts.length := by have := rs.le; omega
      obtain ⟨u, hu⟩ : ∃ u, ts[a]? = some u := ⟨_, List.getElem?_eq_getElem lt⟩
      obtain ⟨q', e1, e2⟩ : ∃ q', vs[a]? = some (.ref q') ∧ H q' = some (.tup (tokV u)) := TokL.get3 h3 hu
      refine ⟨_, rfl, p, C, dx, _, _, rfl, h1, R.cl, R.nA, rF_at _ _ _ _, _, _, rfl, rfl, dx, _, h1, (by show 4 < 1000; decide), ?_⟩
      have rs' := rs.step h1 lt
      have hp : upd H p (.ins C dx (putF "at" (.int ((a : Int) + 1)) (rF L a n b))) p = some (.ins C dx (rF L (a + 1) n b)) := by rw [upd_same]; exact congrArg (fun q => some (HO.ins C dx q)) (rF_pAt L a n b (a + 1))
      have hL : upd H p (.ins C dx (putF "at" (.int ((a : Int) + 1)) (rF L a n b))) L = some (.lst vs) := by rw [upd_ne (ne_of h2 h1 (by intro z; cases z))]; exact h2
      have hq : upd H p (.ins C dx (putF "at" (.int ((a : Int) + 1)) (rF L a n b))) q' = some (.tup (tokV u)) := by rw [upd_ne (ne_of e2 h1 (by intro z; cases z))]; exact e2
      refine ⟨_, rfl, p, C, dx, _, _, rfl, hp, R.cl, R.nT, rF_tok _ _ _ _, _, rfl, p, C, dx, _, _, rfl, hp, R.cl, R.nA, rF_at _ _ _ _, _, _, rfl, rfl, L, _, _, V.ref q', rfl, rfl, SqL.of hL, ?_, q2 u hu _ _ rs' K1p.put hq⟩
      · have e : ((a + 1 : Nat) : Int) - 1 = (a : Int) := by omega
        show atI vs (((a + 1 : Nat) : Int) - 1) = _
        rw [e]
        exact atI_nat e1
end
end K3

set_option maxRecDepth 100000
set_option maxHeartbeats 4000000
/-! the reader: one of some signs; trees in the heap -/
namespace K3
open PySem hiding Tok
open PySem.Spec PyProof.Rows L2 GD K1
open K2 hiding Sp P
section
variable {P : Program} {w : World} {K : PySem.W.Frag} {mg : Str → Option Value} {base : Heap} {C CN RL : Addr}
theorem simple_sign {c : Nat} (h : c < 128) : simpleT (.sign c) := by
  have : ∀ c, c < 128 → SeqAt.shaped (tokD (.sign c)) = true := by decide +kernel
  exact ⟨.inl ⟨c, rfl⟩, this c h⟩
theorem sign_dp {H : Hp} {q : Addr} {c : Nat} (h : H q = some (.tup [.str "sign", .str (S [c])])) : Dp K H (.ref q) (tokD (.sign c)) := tokD_dp (t := .sign c) h
def spSign (C RL : Addr) : L2.Sp := fun vs H Q _ => ∃ p ts a n b sg, ∃ cs : List Nat, vs = [.ref p, .ref sg] ∧ RS C RL p H ts a n b ∧ H sg = some (.tup (cs.map fun c => .str (S [c]))) ∧ (∀ c ∈ cs, c < 128) ∧
  ((∀ c ∈ cs, ts[a]? ≠ some (.sign c)) → ∀ H', RS C RL p H' ts a n b → K1p p H H' → Q .non H') ∧
  (∀ c ∈ cs, ts[a]? = some (.sign c) → ∀ H', RS C RL p H' ts (a + 1) n b → K1p p H H' → Q (.str (S [c])) H')
theorem scAccS : FnScope ["self", "signs", "sign"] ["self", "signs"] (defScope mAccSign) := ⟨rfl, rfl, rfl, by decide +kernel, rfl, by decide +kernel, by decide +kernel⟩
theorem ok_accSign {f f1 : Addr} {fd fd1 : FuncData} (F : Fun K "accept_sign" "Reader.accept_sign" mAccSign f fd) (R : TxR K mg C CN) (M1 : MO P w K mg base CX0 3 C "accept" ["self", "token"] (spAccept K C RL) f1 fd1) :
    FnOk P w K mg base CX0 4 f fd ["self", "signs"] (spSign C RL) := by
  have sc := scAccS
  refine F.ok sc (fun vs H Q E h => ?_) (fun cdv A outer s H vs Q E hr h => ?_)
  · obtain ⟨p, ts, a, n, b, sg, cs, rfl, _⟩ := h
    rfl
  · obtain ⟨p, ts, a, n, b, sg, cs, rfl, rs, hsg, hc, q1, q2⟩ := h
    refine ⟨_, pss_cons (ps_for PassesOwn.never rfl (pi_tup (pv 1)) (pg_name (i := 2) sc.nd rfl (.inl rfl))
      (pss_one (ps_if (pt_val (pe_meth (pv 0) R.cl M1.mt M1.ok hr M1.bi .nil pass0 (pa_cons (pe_tup (pa_cons pe_str (pa_cons (pv 2) pa_nil))) pa_nil))) (pss_one (ps_ret (pv 2))) pss_nil)))
      (pss_one (ps_ret pe_non)), ?_⟩
    have np : sg ≠ p := by
      obtain ⟨L, dx, vs, h1, _⟩ := rs.ex
      exact ne_of hsg h1 (by intro z; cases z)
    refine ⟨_, rfl, sg, rfl, ⟨_, SqT.of hsg⟩, for_tup (K := K) (a := sg) (xs := cs.map fun c => .str (S [c])) (fun i σ H' => ∃ v : Option V, σ = [some (.ref p), some (.ref sg), v] ∧ RS C RL p H' ts a n b ∧ K1p p H H' ∧ ∀ c ∈ cs.take i, ts[a]? ≠ some (.sign c))
      ⟨none, rfl, rs, K1p.refl _ _, fun c hc => by simp at hc⟩ (fun i σ H' _ ⟨_, _, _, k, _⟩ => SqT.of (k _ _ np hsg)) ?_ ?_⟩
    · rintro i y σ H' hi ⟨v, rfl, rs', k, no⟩
      obtain ⟨c, hci, rfl⟩ : ∃ c, cs[i]? = some c ∧ y = .str (S [c]) := by
        rw [List.getElem?_map] at hi
        obtain ⟨c, h1, h2⟩ := Option.map_eq_some_iff.mp hi
        exact ⟨c, h1, h2.symm⟩
      have hm := List.mem_of_getElem? hci
      obtain ⟨L, dx, vs, h1, h2, h3⟩ := rs'.ex
      refine ⟨_, rfl, p, dx, _, rfl, h1, rF_no (by decide +kernel) (by decide +kernel) (by decide +kernel) (by decide +kernel) _ _ _ _, _, rfl, two_le, fun q nq => ?_⟩
      refine ⟨p, ts, a, n, b, _, .sign c, rfl, rs'.new nq, sign_dp upd_same, simple_sign (hc c hm), fun z => ?_, fun z H2 r2 k2 => ?_⟩
      · refine ⟨_, rfl, iteF ?_⟩
        refine ⟨_, rfl, rs'.new nq, k.trans (K1p.new nq), fun d hd => ?_⟩
        rw [List.take_add_one, hci, List.mem_append] at hd
        rcases hd with hd | hd
        · exact no d hd
        · have : d = c := by simpa using hd
          rw [this]
          exact z
      · refine ⟨_, rfl, iteT ?_⟩
        exact ⟨_, rfl, q2 c hm z H2 r2 ((k.trans (K1p.new nq)).trans k2)⟩
    · rintro σ H' ⟨v, rfl, rs', k, no⟩
      rw [List.length_map, List.take_length] at no
      exact q1 no H' rs' k
/-! ### trees in the heap -/
mutual
def TV (H : Hp) : Tr → V → Prop
  | .num n, v => ∃ q, v = .ref q ∧ H q = some (.tup [.str "number", .int (n : Nat)])
  | .str l, v => ∃ q, v = .ref q ∧ H q = some (.tup [.str "string", .str (S l)])
  | .name l, v => ∃ q, v = .ref q ∧ H q = some (.tup [.str "name", .str (S l)])
  | .call f as, v => ∃ q a vs, v = .ref q ∧ H q = some (.tup [.str "call", .str (S f), .ref a]) ∧ H a = some (.tup vs) ∧ TVs H as vs ∧ as.length ≤ 5000
  | .ite x y z, v => ∃ q a b c, v = .ref q ∧ H q = some (.tup [.str "if", a, b, c]) ∧ TV H x a ∧ TV H y b ∧ TV H z c
  | .set x t, v => ∃ q a, v = .ref q ∧ H q = some (.tup [.str "set", .str (S x), a]) ∧ TV H t a
  | .seq x y, v => ∃ q a b, v = .ref q ∧ H q = some (.tup [.str "then", a, b]) ∧ TV H x a ∧ TV H y b
  | .op c x y, v => ∃ q a b, v = .ref q ∧ H q = some (.tup [.str (S [c]), a, b]) ∧ TV H x a ∧ TV H y b ∧ c ∈ [42, 43, 45, 60, 61]
def TVs (H : Hp) : List Tr → List V → Prop
  | [], vs => vs = []
  | t :: ts, vs => ∃ v r, vs = v :: r ∧ TV H t v ∧ TVs H ts r
end
mutual
theorem TV.imp {H H' : Hp} (k : ∀ q xs, H q = some (.tup xs) → H' q = some (.tup xs)) : ∀ (t : Tr) (v : V), TV H t v → TV H' t v
  | .num n, v, h => by
    rw [TV] at h ⊢
    obtain ⟨q, e, h⟩ := h
    exact ⟨q, e, k _ _ h⟩
  | .str n, v, h => by
    rw [TV] at h ⊢
    obtain ⟨q, e, h⟩ := h
    exact ⟨q, e, k _ _ h⟩
  | .name n, v, h => by
    rw [TV] at h ⊢
    obtain ⟨q, e, h⟩ := h
    exact ⟨q, e, k _ _ h⟩
  | .call f as, v, h => by
    rw [TV] at h ⊢
    obtain ⟨q, a, vs, e, h1, h2, h3, h4⟩ := h
    exact ⟨q, a, vs, e, k _ _ h1, k _ _ h2, TVs.imp k as vs h3, h4⟩
  | .ite x y z, v, h => by
    rw [TV] at h ⊢
    obtain ⟨q, a, b, c, e, h1, h2, h3, h4⟩ := h
    exact ⟨q, a, b, c, e, k _ _ h1, TV.imp k x a h2, TV.imp k y b h3, TV.imp k z c h4⟩
  | .set x t, v, h => by
    rw [TV] at h ⊢
    obtain ⟨q, a, e, h1, h2⟩ := h
    exact ⟨q, a, e, k _ _ h1, TV.imp k t a h2⟩
  | .seq x y, v, h => by
    rw [TV] at h ⊢
    obtain ⟨q, a, b, e, h1, h2, h3⟩ := h
    exact ⟨q, a, b, e, k _ _ h1, TV.imp k x a h2, TV.imp k y b h3⟩
  | .op c x y, v, h => by
    rw [TV] at h ⊢
    obtain ⟨q, a, b, e, h1, h2, h3, h4⟩ := h
    exact ⟨q, a, b, e, k _ _ h1, TV.imp k x a h2, TV.imp k y b h3, h4⟩
theorem TVs.imp {H H' : Hp} (k : ∀ q xs, H q = some (.tup xs) → H' q = some (.tup xs)) : ∀ (ts : List Tr) (vs : List V), TVs H ts vs → TVs H' ts vs
  | [], vs, h => by
    rw [TVs] at h ⊢
    exact h
  | t :: ts, vs, h => by
    rw [TVs] at h ⊢
    obtain ⟨v, r, e, h1, h2⟩ := h
    exact ⟨v, r, e, TV.imp k t v h1, TVs.imp k ts r h2⟩
end
/-- all is kept but the reader at p and the table at PN -/
def KR (PN p : Addr) (H H' : Hp) : Prop := GxR.TabG H' PN ∧ ∀ b o, b ≠ PN → b ≠ p → H b = some o → H' b = some o
theorem KR.refl {PN p : Addr} {H : Hp} (t : GxR.TabG H PN) : KR PN p H H := ⟨t, fun _ _ _ _ h => h⟩
theorem KR.trans {PN p : Addr} {H H1 H2 : Hp} (x : KR PN p H H1) (y : KR PN p H1 H2) : KR PN p H H2 := ⟨y.1, fun b o n m h => y.2 b o n m (x.2 b o n m h)⟩
theorem KR.of {PN p : Addr} {H H' : Hp} (t : GxR.TabG H PN) (n : PN ≠ p) (k : K1p p H H') : KR PN p H H' := by
  obtain ⟨ps, e, r⟩ := t
  exact ⟨⟨ps, k _ _ n e, r⟩, fun b o _ m h => k b o m h⟩
theorem RS.nP {p PN : Addr} {H : Hp} {ts : List Tok} {a n b : Nat} (h : RS C RL p H ts a n b) (t : GxR.TabG H PN) : PN ≠ p := fun e => by
  obtain ⟨L, dx, vs, h1, _⟩ := h.ex
  obtain ⟨ps, h2, _⟩ := t
  rw [e, h1] at h2
  cases h2
theorem KR.tup {PN p : Addr} {H H' : Hp} {ts : List Tok} {a n b : Nat} (k : KR PN p H H') (h : RS C RL p H ts a n b) (t : GxR.TabG H PN) : ∀ q xs, H q = some (.tup xs) → H' q = some (.tup xs) := fun q xs hq => by
  obtain ⟨L, dx, vs, h1, _⟩ := h.ex
  exact k.2 q _ (tup_ne_tab t hq) (ne_of hq h1 (by intro z; cases z)) hq
/-- a method of the reader that reads as X does; nested n, branches b -/
def spPR (PN C CN RL : Addr) (X : PR) (n b : Nat) : L2.Sp := fun vs H Q E => ∃ p ts a, vs = [.ref p] ∧ RS C RL p H ts a n b ∧ GxR.TabG H PN ∧
  (X (ts.drop a) = none → ∀ H', KR PN p H H' → E (.ref CN) none H') ∧
  (∀ t r, X (ts.drop a) = some (t, r) → ∀ H' v a', KR PN p H H' → RS C RL p H' ts a' n b → ts.drop a' = r → TV H' t v → hgt t ≤ 12 → Q v H')
end
end K3

set_option maxRecDepth 100000
set_option maxHeartbeats 4000000
/-! the reader: rows of products and of sums, comparisons -/
namespace K3
open PySem hiding Tok
open PySem.Spec PyProof.Rows L2 GD K1
open K2 hiding Sp P
abbrev mCompared : Stmt := inClass cRead 12
abbrev mAdded : Stmt := inClass cRead 13
abbrev mMult : Stmt := inClass cRead 14
section
variable {P : Program} {w : World} {K : PySem.W.Frag} {mg : Str → Option Value} {base : Heap} {C CN PN RL : Addr}
/-- a def of the top, with its promise -/
structure FO (P : Program) (w : World) (K : PySem.W.Frag) (mg : Str → Option Value) (base : Heap) (CX : CXT) (k : Nat) (x : Str) (ps : List Str) (sp : L2.Sp) (f : Addr) (fd : FuncData) : Prop where
  m : mg x = some (.ref f)
  kp : PySem.W.keepIn K (.ref f) = true
  b : Binds K fd ps []
  ok : FnOk P w K mg base CX k f fd ps sp
def spBnd (CN : Addr) : L2.Sp := fun vs H Q E => ∃ v t, vs = [v] ∧ TV H t v ∧ hgt t ≤ 13 ∧ (12 < hgt t → ∀ H', Same H H' → E (.ref CN) none H') ∧ (hgt t ≤ 12 → ∀ H', Same H H' → Q v H')
theorem sd_lt {X : PR} (h : Sd X) {r r2 : List Tok} {u : Tr} (e : X r = some (u, r2)) : r2.length < r.length := by
  obtain ⟨v, hv, g⟩ := h _ _ _ e
  have : v ≠ [] := fun z => by have := g.ne; rw [z] at this; cases this
  have : 0 < v.length := List.length_pos_iff.mpr this
  rw [hv, List.length_append]
  omega
theorem drop_t {ts : List Tok} {i : Nat} {c : Tok} (h : ts[i]? = some c) : ts.drop i = c :: ts.drop (i + 1) := by
  obtain ⟨h1, h2⟩ := List.getElem?_eq_some_iff.mp h
  rw [← h2]
  exact List.drop_eq_getElem_cons h1
theorem drop_no {ts : List Tok} {i : Nat} {cs : List Nat} (h : ∀ c ∈ cs, ts[i]? ≠ some (.sign c)) : ∀ c r, ts.drop i = .sign c :: r → c ∉ cs := fun c r e hc => by
  have : ts[i]? = some (.sign c) := by
    have := congrArg (fun l : List Tok => l[0]?) e
    rw [List.getElem?_drop] at this
    exact this
  exact h c hc this
theorem op_stop {X : PR} {cs : List Nat} {m c : Nat} {t : Tr} {r : List Tok} (hm : 0 < m) (hc : c ∈ cs) (hx : X r = none) : opLoop X cs m t (.sign c :: r) = none := by
  obtain ⟨m, rfl⟩ : ∃ k, m = k + 1 := ⟨m - 1, by omega⟩
  rw [opLoop, if_pos hc, hx]
theorem op_high {X : PR} {cs : List Nat} {m c : Nat} {t u : Tr} {r r2 : List Tok} (hm : 0 < m) (hc : c ∈ cs) (hx : X r = some (u, r2)) (hh : ¬ hgt (.op c t u) ≤ 12) : opLoop X cs m t (.sign c :: r) = none := by
  obtain ⟨m, rfl⟩ : ∃ k, m = k + 1 := ⟨m - 1, by omega⟩
  rw [opLoop, if_pos hc, hx]
  show (if _ then _ else _) = _
  rw [if_neg hh]
theorem op_more {X : PR} {cs : List Nat} {m c : Nat} {t u : Tr} {r r2 : List Tok} (hm : (Tok.sign c :: r).length < m) (hc : c ∈ cs) (hx : X r = some (u, r2)) (hl : r2.length < r.length) (hh : hgt (.op c t u) ≤ 12) :
    ∃ m', r2.length < m' ∧ opLoop X cs m t (.sign c :: r) = opLoop X cs m' (.op c t u) r2 := by
  obtain ⟨m, rfl⟩ : ∃ k, m = k + 1 := ⟨m - 1, by omega⟩
  refine ⟨m, by simp at hm; omega, ?_⟩
  rw [opLoop, if_pos hc, hx]
  show (if _ then _ else _) = _
  rw [if_pos hh]
theorem hgt_op {c : Nat} {t u : Tr} (h1 : hgt t ≤ 12) (h2 : hgt u ≤ 12) : hgt (.op c t u) ≤ 13 := by rw [hgt]; omega
theorem three_le : 3 ≤ sizeLine := by decide
theorem Same.kr {p : Addr} {H H' : Hp} (s : Same H H') (t : GxR.TabG H PN) : KR PN p H H' := by
  obtain ⟨ps, e, r⟩ := t
  exact ⟨⟨ps, s _ _ e, r⟩, fun b o _ _ h => s b o h⟩
theorem KR.new {p l : Addr} {H : Hp} {o : HO} (t : GxR.TabG H PN) (h : H l = none) : KR PN p H (upd H l o) := Same.kr (Same.lst (Same.refl H) h) t
theorem scMult : FnScope ["self", "tree"] ["self"] (defScope mMult) := ⟨rfl, rfl, rfl, by decide +kernel, rfl, by decide +kernel, by decide +kernel⟩
theorem ok_mult {k n b : Nat} {X : PR} {f f1 f2 f3 : Addr} {fd fd1 fd2 fd3 : FuncData} (F : Fun K "multiplied" "Reader.multiplied" mMult f fd) (R : TxR K mg C CN) (sX : Sd X) (hk : 40 ≤ k)
    (M1 : MO P w K mg base CX0 3 C "accept" ["self", "token"] (spAccept K C RL) f1 fd1) (M2 : MO P w K mg base (L2.CX P w) k C "atom" ["self"] (spPR PN C CN RL X n b) f2 fd2)
    (FB : FO P w K mg base (L2.CX P w) 40 "bounded" ["tree"] (spBnd CN) f3 fd3) : FnOk P w K mg base (L2.CX P w) (k + 1) f fd ["self"] (spPR PN C CN RL (mulP X) n b) := by
  have sc := scMult
  refine F.okX sc (fun vs H Q E h => ?_) (fun cdv A outer s H vs Q E hr h => ?_)
  · obtain ⟨p, ts, a, rfl, _⟩ := h
    rfl
  · obtain ⟨p, ts, a, rfl, rs, tb, q1, q2⟩ := h
    have hr3 : Room 3 _ := hr.mono (by omega)
    have hrB : Room 40 _ := hr.mono hk
    refine ⟨_, pss_cons (ps_set (i := 1) sc.nd rfl (.inl rfl) (pe_meth0 (pv 0) R.cl M2.mt M2.ok hr M2.bi .nil passE))
      (pss_cons (ps_while (passes_of rfl) (pt_val (pe_meth (pv 0) R.cl M1.mt M1.ok hr3 M1.bi .nil pass0 (pa_cons (pe_tup (pa_cons pe_str (pa_cons pe_str pa_nil))) pa_nil)))
        (pss_one (ps_set (i := 1) sc.nd rfl (.inl rfl) (pe_call FB.ok hrB (by rfl) FB.m FB.kp FB.b .nil passE (pa_cons (pe_tup (pa_cons pe_str (pa_cons (pv 1) (pa_cons (pe_meth0 (pv 0) R.cl M2.mt M2.ok hr M2.bi .nil passE) pa_nil)))) pa_nil)))))
      (pss_one (ps_ret (pv 1)))), ?_⟩
    obtain ⟨L, dx, vs, h1, h2, h3⟩ := rs.ex
    refine ⟨_, rfl, p, dx, _, rfl, h1, rF_no (by decide +kernel) (by decide +kernel) (by decide +kernel) (by decide +kernel) _ _ _ _, p, ts, a, rfl, rs, tb, fun e H' kr => ?_, fun t r e H1 v a1 kr rs1 ed tv ht => ?_⟩
    · exact q1 (by unfold mulP; rw [e]) H' kr
    refine ⟨fun m σ H' => ∃ a' t v, σ = [some (.ref p), some v] ∧ KR PN p H H' ∧ RS C RL p H' ts a' n b ∧ TV H' t v ∧ hgt t ≤ 12 ∧ m = ts.length - a' ∧
      ∃ m', (ts.drop a').length < m' ∧ opLoop X [42] m' t (ts.drop a') = mulP X (ts.drop a), ⟨_, a1, t, v, rfl, kr, rs1, tv, ht, rfl, r.length + 1, by rw [ed]; omega, by unfold mulP; rw [e, ed]⟩, ?_⟩
    rintro m σ H' ⟨a', t, v, rfl, kr, rs', tv, ht, rfl, m', hm', em⟩
    obtain ⟨L, dx, vs, h1, h2, h3⟩ := rs'.ex
    refine ⟨_, rfl, p, dx, _, rfl, h1, rF_no (by decide +kernel) (by decide +kernel) (by decide +kernel) (by decide +kernel) _ _ _ _, two_le, fun q nq => ?_⟩
    have rs2 := rs'.new (o := .tup [.str "sign", .str "*"]) nq
    have tb2 : GxR.TabG (upd H' q (.tup [.str "sign", .str "*"])) PN := (KR.new (p := p) kr.1 nq).1
    refine ⟨p, ts, a', n, b, _, .sign 42, rfl, rs2, sign_dp upd_same, simple_sign (by decide), fun z => ?_, fun z H2 r2 k2 => ?_⟩
    · refine ⟨_, rfl, iteF ?_⟩
      have e1 := loop_end (x := X) (cs := [42]) (t := t) hm' (drop_no (cs := [42]) (fun c hc => by rw [List.mem_singleton.mp hc]; exact z))
      rw [em] at e1
      refine ⟨_, rfl, q2 t _ e1 _ v a' (kr.trans (KR.new kr.1 nq)) rs2 rfl (TV.imp (fun u xs hu => by rw [upd_ne (ne_of_none hu nq)]; exact hu) t v tv) ht⟩
    · refine ⟨_, rfl, iteT ?_⟩
      have ed := drop_t z
      have lt : a' < ts.length := (List.getElem?_eq_some_iff.mp z).1
      rw [ed] at em hm'
      have kr2 : KR PN p H H2 := (kr.trans (KR.new kr.1 nq)).trans (KR.of tb2 (rs2.nP tb2) k2)
      have tv2 : TV H2 t v := TV.imp (fun u xs hu => by
        have hu' : upd H' q (.tup [.str "sign", .str "*"]) u = some (.tup xs) := by rw [upd_ne (ne_of_none hu nq)]; exact hu
        exact k2 _ _ (ne_of hu h1 (by intro z; cases z)) hu') t v tv
      obtain ⟨L2', dx2, vs2, g1, g2, g3⟩ := r2.ex
      refine ⟨fun σ' H3 => ∃ a2 t v, σ' = [some (.ref p), some v] ∧ KR PN p H H3 ∧ RS C RL p H3 ts a2 n b ∧ TV H3 t v ∧ hgt t ≤ 12 ∧ a' < a2 ∧
        ∃ m', (ts.drop a2).length < m' ∧ opLoop X [42] m' t (ts.drop a2) = mulP X (ts.drop a), fun σ' H3 hN => ?_, ?_⟩
      · obtain ⟨a2, t, v, i1, i2, i3, i4, i5, i6, i7⟩ := hN
        exact ⟨ts.length - a2, by have := i3.le; omega, a2, t, v, i1, i2, i3, i4, i5, rfl, i7⟩
      refine ⟨_, rfl, _, rfl, p, dx2, _, rfl, g1, rF_no (by decide +kernel) (by decide +kernel) (by decide +kernel) (by decide +kernel) _ _ _ _, p, ts, a' + 1, rfl, r2, kr2.1, fun e H3 k3 => ?_, fun u r3 e H3 v3 a3 k3 rs3 ed3 tv3 hu => ?_⟩
      · exact q1 (by rw [← em]; exact op_stop (by omega) (List.mem_singleton.mpr rfl) e) H3 (kr2.trans k3)
      · refine ⟨three_le, fun x nx => ?_⟩
        have tv3' : TV H3 t v := TV.imp (k3.tup r2 kr2.1) t v tv2
        have sx : ∀ q xs, H3 q = some (.tup xs) → upd H3 x (.tup [.str "*", v, v3]) q = some (.tup xs) := fun q xs hq => by rw [upd_ne (ne_of_none hq nx)]; exact hq
        have kx : KR PN p H (upd H3 x (.tup [.str "*", v, v3])) := (kr2.trans k3).trans (KR.new k3.1 nx)
        refine ⟨_, .op 42 t u, rfl, ?_, hgt_op ht hu, fun hh H4 s4 => ?_, fun hh H4 s4 => ?_⟩
        · rw [TV]
          exact ⟨x, v, v3, rfl, upd_same, TV.imp sx t v tv3', TV.imp sx u v3 tv3, by decide⟩
        · exact q1 (by rw [← em]; exact op_high (by omega) (List.mem_singleton.mpr rfl) e (by omega)) H4 (kx.trans (Same.kr s4 kx.1))
        · obtain ⟨m2, hm2, e2⟩ := op_more hm' (List.mem_singleton.mpr rfl) e (sd_lt sX e) hh
          refine ⟨a3, _, _, rfl, kx.trans (Same.kr s4 kx.1), (rs3.new nx).keep s4, ?_, hh, ?_, m2, by rw [ed3]; exact hm2, by rw [ed3, ← e2, em]⟩
          · rw [TV]
            exact ⟨x, v, v3, rfl, s4 _ _ upd_same, TV.imp (fun q xs hq => s4 _ _ (sx q xs hq)) t v tv3', TV.imp (fun q xs hq => s4 _ _ (sx q xs hq)) u v3 tv3, by decide⟩
          · have l1 := sd_lt sX e
            have := rs3.le
            rw [← ed3, List.length_drop, List.length_drop] at l1
            omega
end
end K3

set_option maxRecDepth 100000
set_option maxHeartbeats 4000000
/-! the reader: sums, comparisons -/
namespace K3
open PySem hiding Tok
open PySem.Spec PyProof.Rows L2 GD K1
open K2 hiding Sp P
section
variable {P : Program} {w : World} {K : PySem.W.Frag} {mg : Str → Option Value} {base : Heap} {C CN PN RL : Addr}
theorem K1p.tup {p : Addr} {H H' : Hp} {ts : List Tok} {a n b : Nat} (k : K1p p H H') (h : RS C RL p H ts a n b) : ∀ q xs, H q = some (.tup xs) → H' q = some (.tup xs) := fun q xs hq => by
  obtain ⟨L, dx, vs, h1, _⟩ := h.ex
  exact k q _ (ne_of hq h1 (by intro z; cases z)) hq
theorem newtup {H : Hp} {x : Addr} {o : HO} (nx : H x = none) : ∀ q xs, H q = some (.tup xs) → upd H x o q = some (.tup xs) := fun q xs hq => by rw [upd_ne (ne_of_none hq nx)]; exact hq
theorem op_in1 {c : Nat} (h : c ∈ [43, 45]) : c ∈ [42, 43, 45, 60, 61] := by
  have : ∀ c ∈ [43, 45], c ∈ [42, 43, 45, 60, 61] := by decide
  exact this c h
theorem op_in2 {c : Nat} (h : c ∈ [61, 60]) : c ∈ [42, 43, 45, 60, 61] := by
  have : ∀ c ∈ [61, 60], c ∈ [42, 43, 45, 60, 61] := by decide
  exact this c h
theorem scAdded : FnScope ["self", "tree", "sign"] ["self"] (defScope mAdded) := ⟨rfl, rfl, rfl, by decide +kernel, rfl, by decide +kernel, by decide +kernel⟩
theorem ok_added {k n b : Nat} {A0 : PR} {f f1 f2 f3 : Addr} {fd fd1 fd2 fd3 : FuncData} (F : Fun K "added" "Reader.added" mAdded f fd) (R : TxR K mg C CN) (sA : Sd A0) (hk : 40 ≤ k)
    (M1 : MO P w K mg base CX0 4 C "accept_sign" ["self", "signs"] (spSign C RL) f1 fd1) (M2 : MO P w K mg base (L2.CX P w) k C "multiplied" ["self"] (spPR PN C CN RL (mulP A0) n b) f2 fd2)
    (FB : FO P w K mg base (L2.CX P w) 40 "bounded" ["tree"] (spBnd CN) f3 fd3) : FnOk P w K mg base (L2.CX P w) (k + 1) f fd ["self"] (spPR PN C CN RL (addP A0) n b) := by
  have sc := scAdded
  have sX := sd_mul sA
  refine F.okX sc (fun vs H Q E h => ?_) (fun cdv A outer s H vs Q E hr h => ?_)
  · obtain ⟨p, ts, a, rfl, _⟩ := h
    rfl
  · obtain ⟨p, ts, a, rfl, rs, tb, q1, q2⟩ := h
    have hr4 : Room 4 _ := hr.mono (by omega)
    have hrB : Room 40 _ := hr.mono hk
    refine ⟨_, pss_cons (ps_set (i := 1) sc.nd rfl (.inl rfl) (pe_meth0 (pv 0) R.cl M2.mt M2.ok hr M2.bi .nil passE))
      (pss_cons (ps_set (i := 2) sc.nd rfl (.inl rfl) (pe_meth (pv 0) R.cl M1.mt M1.ok hr4 M1.bi .nil pass0 (pa_cons (pe_tup (pa_cons pe_str (pa_cons pe_str pa_nil))) pa_nil)))
      (pss_cons (ps_while (passes_of rfl) (pt_cmpR op_notN (pv 2) pe_non (nomark _))
        (pss_cons (ps_set (i := 1) sc.nd rfl (.inl rfl) (pe_call FB.ok hrB (by rfl) FB.m FB.kp FB.b .nil passE (pa_cons (pe_tup (pa_cons (pv 2) (pa_cons (pv 1) (pa_cons (pe_meth0 (pv 0) R.cl M2.mt M2.ok hr M2.bi .nil passE) pa_nil)))) pa_nil)))
        (pss_one (ps_set (i := 2) sc.nd rfl (.inl rfl) (pe_meth (pv 0) R.cl M1.mt M1.ok hr4 M1.bi .nil pass0 (pa_cons (pe_tup (pa_cons pe_str (pa_cons pe_str pa_nil))) pa_nil))))))
      (pss_one (ps_ret (pv 1))))), ?_⟩
    obtain ⟨L, dx, vs, h1, h2, h3⟩ := rs.ex
    refine ⟨_, rfl, p, dx, _, rfl, h1, rF_no (by decide +kernel) (by decide +kernel) (by decide +kernel) (by decide +kernel) _ _ _ _, p, ts, a, rfl, rs, tb, fun e H' kr => ?_, fun t r e H1 v a1 kr rs1 ed tv ht => ?_⟩
    · exact q1 (by unfold addP; rw [e]) H' kr
    -- what the loop keeps
    let I : Nat → Tr → V → Hp → V → Prop := fun a' t v H' sg => KR PN p H H' ∧ RS C RL p H' ts a' n b ∧ TV H' t v ∧ hgt t ≤ 12 ∧
      ((sg = .non ∧ addP A0 (ts.drop a) = some (t, ts.drop a')) ∨ ∃ c ∈ [43, 45], sg = .str (S [c]) ∧ ∃ m', (Tok.sign c :: ts.drop a').length < m' ∧ opLoop (mulP A0) [43, 45] m' t (.sign c :: ts.drop a') = addP A0 (ts.drop a))
    -- asking for a sign
    have ask : ∀ (a' : Nat) (t : Tr) (v : V) (H' : Hp) (m' : Nat) (G : V → Hp → Prop), KR PN p H H' → RS C RL p H' ts a' n b → TV H' t v → hgt t ≤ 12 → (ts.drop a').length < m' →
        opLoop (mulP A0) [43, 45] m' t (ts.drop a') = addP A0 (ts.drop a) → (∀ H'' a2 sg, I a2 t v H'' sg → a' ≤ a2 → G sg H'') → ∀ q, H' q = none → ∀ E', spSign C RL [.ref p, .ref q] (upd H' q (.tup [.str "+", .str "-"])) G E' := by
      intro a' t v H' m' G kr rs' tv ht hm em g q nq E'
      have tb2 : GxR.TabG (upd H' q (.tup [.str "+", .str "-"])) PN := (KR.new (p := p) kr.1 nq).1
      refine ⟨p, ts, a', n, b, q, [43, 45], rfl, rs'.new nq, upd_same, by decide, fun no H2 r2 k2 => ?_, fun c hc z H2 r2 k2 => ?_⟩
      · have e1 := loop_end (x := mulP A0) (cs := [43, 45]) (t := t) hm (drop_no no)
        rw [em] at e1
        exact g H2 a' _ ⟨(kr.trans (KR.new kr.1 nq)).trans (KR.of tb2 ((rs'.new nq).nP tb2) k2), r2, TV.imp (K1p.tup k2 (rs'.new nq)) t v (TV.imp (newtup nq) t v tv), ht, .inl ⟨rfl, e1⟩⟩ (Nat.le_refl _)
      · rw [drop_t z] at em hm
        exact g H2 (a' + 1) _ ⟨(kr.trans (KR.new kr.1 nq)).trans (KR.of tb2 ((rs'.new nq).nP tb2) k2), r2, TV.imp (K1p.tup k2 (rs'.new nq)) t v (TV.imp (newtup nq) t v tv), ht, .inr ⟨c, hc, rfl, m', hm, em⟩⟩ (Nat.le_succ _)
    obtain ⟨L, dx, vs, h1, h2, h3⟩ := rs1.ex
    refine ⟨_, rfl, p, dx, _, rfl, h1, rF_no (by decide +kernel) (by decide +kernel) (by decide +kernel) (by decide +kernel) _ _ _ _, two_le, fun q nq => ?_⟩
    dsimp only [tNil, List.append_nil]
    refine ask a1 t v H1 (r.length + 1) _ kr rs1 tv ht (by rw [ed]; omega) (by unfold addP; rw [e, ed]) (fun H2 a2 sg i2 l2 => ?_) q nq _
    refine ⟨fun m σ H' => ∃ a' t v sg, σ = [some (.ref p), some v, some sg] ∧ I a' t v H' sg ∧ m = ts.length - a', ⟨_, a2, t, v, sg, rfl, i2, rfl⟩, ?_⟩
    rintro m σ H' ⟨a', t, v, sg, rfl, ⟨kr, rs', tv, ht, hI⟩, rfl⟩
    obtain ⟨L, dx, vs, h1, h2, h3⟩ := rs'.ex
    rcases hI with ⟨rfl, eI⟩ | ⟨c, hc, rfl, m', hm', em⟩
    · refine ⟨_, rfl, rfl, _, rfl, iteF ?_⟩
      exact ⟨_, rfl, q2 t _ eI H' v a' kr rs' rfl tv ht⟩
    · refine ⟨_, rfl, rfl, _, rfl, iteT ?_⟩
      refine ⟨fun σ' H3 => ∃ a2 t v sg, σ' = [some (.ref p), some v, some sg] ∧ I a2 t v H3 sg ∧ a' < a2, fun σ' H3 hN => ?_, ?_⟩
      · obtain ⟨a2, t, v, sg, j1, j2, j3⟩ := hN
        exact ⟨ts.length - a2, by have := j2.2.1.le; omega, a2, t, v, sg, j1, j2, rfl⟩
      refine ⟨_, rfl, _, rfl, _, rfl, p, dx, _, rfl, h1, rF_no (by decide +kernel) (by decide +kernel) (by decide +kernel) (by decide +kernel) _ _ _ _, p, ts, a', rfl, rs', kr.1, fun e H3 k3 => ?_, fun u r3 e H3 v3 a3 k3 rs3 ed3 tv3 hu => ?_⟩
      · exact q1 (by rw [← em]; exact op_stop (by omega) hc e) H3 (kr.trans k3)
      · refine ⟨three_le, fun x nx => ?_⟩
        have tv3' : TV H3 t v := TV.imp (k3.tup rs' kr.1) t v tv
        have kx : KR PN p H (upd H3 x (.tup [.str (S [c]), v, v3])) := (kr.trans k3).trans (KR.new k3.1 nx)
        refine ⟨_, .op c t u, rfl, ?_, hgt_op ht hu, fun hh H4 s4 => ?_, fun hh H4 s4 => ?_⟩
        · rw [TV]
          exact ⟨x, v, v3, rfl, upd_same, TV.imp (newtup nx) t v tv3', TV.imp (newtup nx) u v3 tv3, op_in1 hc⟩
        · exact q1 (by rw [← em]; exact op_high (by omega) hc e (by omega)) H4 (kx.trans (Same.kr s4 kx.1))
        · obtain ⟨m2, hm2, e2⟩ := op_more hm' hc e (sd_lt sX e) hh
          have rs4 := (rs3.new (o := .tup [.str (S [c]), v, v3]) nx).keep s4
          have l1 := sd_lt sX e
          rw [← ed3, List.length_drop, List.length_drop] at l1
          have := rs3.le
          have tv4 : TV H4 (.op c t u) (.ref x) := by
            rw [TV]
            exact ⟨x, v, v3, rfl, s4 _ _ upd_same, TV.imp (fun q xs hq => s4 _ _ (newtup nx q xs hq)) t v tv3', TV.imp (fun q xs hq => s4 _ _ (newtup nx q xs hq)) u v3 tv3, op_in1 hc⟩
          obtain ⟨L, dx4, vs, g1, g2, g3⟩ := rs4.ex
          refine ⟨_, rfl, p, dx4, _, rfl, g1, rF_no (by decide +kernel) (by decide +kernel) (by decide +kernel) (by decide +kernel) _ _ _ _, two_le, fun q nq => ?_⟩
          dsimp only [tNil, List.append_nil]
          refine ask a3 _ _ H4 m2 _ (kx.trans (Same.kr s4 kx.1)) rs4 tv4 hh (by rw [ed3]; exact hm2) (by rw [ed3, ← e2, em]) (fun H5 a5 sg i5 l5 => ?_) q nq _
          exact ⟨a5, _, _, sg, rfl, i5, by omega⟩
/-! ### a comparison -/
theorem scComp : FnScope ["self", "left", "sign"] ["self"] (defScope mCompared) := ⟨rfl, rfl, rfl, by decide +kernel, rfl, by decide +kernel, by decide +kernel⟩
theorem cmp_none {A0 : PR} {ts r : List Tok} {t : Tr} (e : addP A0 ts = some (t, r)) (h : ∀ c r', r = .sign c :: r' → c ∉ [61, 60]) : cmpP A0 ts = some (t, r) := by
  unfold cmpP
  rw [e]
  cases r with
  | nil => rfl
  | cons y r =>
    cases y with
    | sign c =>
      have nc : ¬ (c = 61 ∨ c = 60) := fun z => h c r rfl (by rcases z with z | z <;> rw [z] <;> decide)
      show (if c = 61 ∨ c = 60 then _ else _) = _
      rw [if_neg nc]
    | word _ => rfl
    | num _ => rfl
    | str _ => rfl
theorem cmp_some {A0 : PR} {ts r : List Tok} {c : Nat} {t : Tr} (e : addP A0 ts = some (t, .sign c :: r)) (hc : c ∈ [61, 60]) : cmpP A0 ts = (match addP A0 r with
    | none => none
    | some (u, r2) => (bd (.op c t u)).map fun t => (t, r2)) := by
  unfold cmpP
  rw [e]
  show (if c = 61 ∨ c = 60 then _ else _) = _
  rw [if_pos (by simpa using hc)]
  all_goals rfl
theorem ok_comp {k n b : Nat} {A0 : PR} {f f1 f2 f3 : Addr} {fd fd1 fd2 fd3 : FuncData} (F : Fun K "compared" "Reader.compared" mCompared f fd) (R : TxR K mg C CN) (hk : 40 ≤ k)
    (M1 : MO P w K mg base CX0 4 C "accept_sign" ["self", "signs"] (spSign C RL) f1 fd1) (M2 : MO P w K mg base (L2.CX P w) k C "added" ["self"] (spPR PN C CN RL (addP A0) n b) f2 fd2)
    (FB : FO P w K mg base (L2.CX P w) 40 "bounded" ["tree"] (spBnd CN) f3 fd3) : FnOk P w K mg base (L2.CX P w) (k + 1) f fd ["self"] (spPR PN C CN RL (cmpP A0) n b) := by
  have sc := scComp
  refine F.okX sc (fun vs H Q E h => ?_) (fun cdv A outer s H vs Q E hr h => ?_)
  · obtain ⟨p, ts, a, rfl, _⟩ := h
    rfl
  · obtain ⟨p, ts, a, rfl, rs, tb, q1, q2⟩ := h
    have hr4 : Room 4 _ := hr.mono (by omega)
    have hrB : Room 40 _ := hr.mono hk
    refine ⟨_, pss_cons (ps_set (i := 1) sc.nd rfl (.inl rfl) (pe_meth0 (pv 0) R.cl M2.mt M2.ok hr M2.bi .nil passE))
      (pss_cons (ps_set (i := 2) sc.nd rfl (.inl rfl) (pe_meth (pv 0) R.cl M1.mt M1.ok hr4 M1.bi .nil pass0 (pa_cons (pe_tup (pa_cons pe_str (pa_cons pe_str pa_nil))) pa_nil)))
      (pss_cons (ps_if (pt_cmpR op_isN (pv 2) pe_non (nomark _)) (pss_one (ps_ret (pv 1))) pss_nil)
      (pss_one (ps_ret (pe_call FB.ok hrB (by rfl) FB.m FB.kp FB.b .nil passE (pa_cons (pe_tup (pa_cons (pv 2) (pa_cons (pv 1) (pa_cons (pe_meth0 (pv 0) R.cl M2.mt M2.ok hr M2.bi .nil passE) pa_nil)))) pa_nil)))))), ?_⟩
    obtain ⟨L, dx, vs, h1, h2, h3⟩ := rs.ex
    refine ⟨_, rfl, p, dx, _, rfl, h1, rF_no (by decide +kernel) (by decide +kernel) (by decide +kernel) (by decide +kernel) _ _ _ _, p, ts, a, rfl, rs, tb, fun e H' kr => ?_, fun t r e H1 v a1 kr rs1 ed tv ht => ?_⟩
    · exact q1 (by unfold cmpP; rw [e]) H' kr
    obtain ⟨L, dx, vs, h1, h2, h3⟩ := rs1.ex
    refine ⟨_, rfl, p, dx, _, rfl, h1, rF_no (by decide +kernel) (by decide +kernel) (by decide +kernel) (by decide +kernel) _ _ _ _, two_le, fun q nq => ?_⟩
    have tb2 : GxR.TabG (upd H1 q (.tup [.str "=", .str "<"])) PN := (KR.new (p := p) kr.1 nq).1
    have rs2 := rs1.new (o := .tup [.str "=", .str "<"]) nq
    refine ⟨p, ts, a1, n, b, q, [61, 60], rfl, rs2, upd_same, by decide, fun no H2 r2 k2 => ?_, fun c hc z H2 r2 k2 => ?_⟩
    · refine ⟨_, rfl, rfl, _, rfl, iteT ?_⟩
      exact ⟨_, rfl, q2 t r (cmp_none e (by rw [← ed]; exact drop_no no)) H2 v a1 ((kr.trans (KR.new kr.1 nq)).trans (KR.of tb2 (rs2.nP tb2) k2)) r2 ed (TV.imp (K1p.tup k2 rs2) t v (TV.imp (newtup nq) t v tv)) ht⟩
    · refine ⟨_, rfl, rfl, _, rfl, iteF ?_⟩
      have kr2 : KR PN p H H2 := (kr.trans (KR.new kr.1 nq)).trans (KR.of tb2 (rs2.nP tb2) k2)
      have tv2 : TV H2 t v := TV.imp (K1p.tup k2 rs2) t v (TV.imp (newtup nq) t v tv)
      rw [← ed, drop_t z] at e
      have ec := cmp_some e hc
      obtain ⟨L, dx2, vs, g1, g2, g3⟩ := r2.ex
      refine ⟨_, rfl, _, rfl, _, rfl, p, dx2, _, rfl, g1, rF_no (by decide +kernel) (by decide +kernel) (by decide +kernel) (by decide +kernel) _ _ _ _, p, ts, a1 + 1, rfl, r2, kr2.1, fun e H3 k3 => ?_, fun u r3 e H3 v3 a3 k3 rs3 ed3 tv3 hu => ?_⟩
      · exact q1 (by rw [ec, e]) H3 (kr2.trans k3)
      · refine ⟨three_le, fun x nx => ?_⟩
        have tv3' : TV H3 t v := TV.imp (k3.tup r2 kr2.1) t v tv2
        have kx : KR PN p H (upd H3 x (.tup [.str (S [c]), v, v3])) := (kr2.trans k3).trans (KR.new k3.1 nx)
        rw [e] at ec
        have ec : cmpP A0 (ts.drop a) = (bd (.op c t u)).map fun t => (t, r3) := ec
        unfold bd at ec
        refine ⟨_, .op c t u, rfl, ?_, hgt_op ht hu, fun hh H4 s4 => ?_, fun hh H4 s4 => ?_⟩
        · rw [TV]
          exact ⟨x, v, v3, rfl, upd_same, TV.imp (newtup nx) t v tv3', TV.imp (newtup nx) u v3 tv3, op_in2 hc⟩
        · rw [if_neg (by omega)] at ec
          exact q1 ec H4 (kx.trans (Same.kr s4 kx.1))
        · rw [if_pos hh] at ec
          refine q2 _ _ ec H4 _ a3 (kx.trans (Same.kr s4 kx.1)) ((rs3.new nx).keep s4) ed3 ?_ hh
          rw [TV]
          exact ⟨x, v, v3, rfl, s4 _ _ upd_same, TV.imp (fun q xs hq => s4 _ _ (newtup nx q xs hq)) t v tv3', TV.imp (fun q xs hq => s4 _ _ (newtup nx q xs hq)) u v3 tv3, op_in2 hc⟩
end
end K3

set_option maxRecDepth 100000
set_option maxHeartbeats 4000000
/-! the reader: branches, choices, settings, wholes -/
namespace K3
open PySem hiding Tok
open PySem.Spec PyProof.Rows L2 GD K1
open K2 hiding Sp P
abbrev mWhole : Stmt := inClass cRead 7
abbrev mChoice : Stmt := inClass cRead 8
abbrev mSetting : Stmt := inClass cRead 9
abbrev mBranch : Stmt := inClass cRead 10
abbrev mTarget : Stmt := inClass cRead 11
section
variable {P : Program} {w : World} {K : PySem.W.Frag} {mg : Str → Option Value} {base : Heap} {C CN PN RL : Addr}
def spC (c : Prop) (sp : L2.Sp) : L2.Sp := fun vs H Q E => c ∧ sp vs H Q E
theorem fn_cond {CX : CXT} {k : Nat} {f : Addr} {fd : FuncData} {ps : List Str} {c : Prop} {sp : L2.Sp} (F : c → FnOk P w K mg base CX k f fd ps sp) : FnOk P w K mg base CX k f fd ps (spC c sp) :=
  ⟨fun vs H Q E h => (F h.1).len vs H Q E h.2, fun A outer s H args us vs Q E hr e b v h => (F h.1).run A outer s H args us vs Q E hr e b v h.2⟩
theorem KR.put {p : Addr} {H : Hp} {o : HO} (t : GxR.TabG H PN) (n : PN ≠ p) : KR PN p H (upd H p o) := KR.of t n K1p.put
/-- branch -/
def brP (W : PR) (b : Nat) : PR := if b + 1 < 12 then W else K2.fail
theorem scBr : FnScope ["self", "tree"] ["self"] (defScope mBranch) := ⟨rfl, rfl, rfl, by decide +kernel, rfl, by decide +kernel, by decide +kernel⟩
theorem ok_branch {k n b : Nat} {W : PR} {f f2 : Addr} {fd fd2 : FuncData} (F : Fun K "branch" "Reader.branch" mBranch f fd) (R : TxR K mg C CN)
    (M2 : MO P w K mg base (L2.CX P w) k C "whole" ["self"] (spC (b + 1 < 12) (spPR PN C CN RL W n (b + 1))) f2 fd2) : FnOk P w K mg base (L2.CX P w) (k + 1) f fd ["self"] (spPR PN C CN RL (brP W b) n b) := by
  have sc := scBr
  obtain ⟨t12, g12⟩ := R.HEIGHT
  refine F.okX sc (fun vs H Q E h => ?_) (fun cdv A outer s H vs Q E hr h => ?_)
  · obtain ⟨p, ts, a, rfl, _⟩ := h
    rfl
  · obtain ⟨p, ts, a, rfl, rs, tb, q1, q2⟩ := h
    refine ⟨_, pss_cons (ps_fldaug (pv 0) pe_int in_add) (pss_cons (ps_if (pt_cmpR op_ge (pe_fld (pv 0) rfl) (pe_gint rfl g12) (nomark _))
        (pss_one (ps_raise rfl (takes_of rfl rfl rfl rfl) (pmk_own PySem.F.excBase_ValueError R.xN R.gN R.kN (raises_own R.bN R.tN) rfl))) pss_nil)
      (pss_cons (ps_set (i := 1) sc.nd rfl (.inl rfl) (pe_meth0 (pv 0) R.cl M2.mt M2.ok hr M2.bi .nil passE))
      (pss_cons (ps_fldaug (pv 0) pe_int in_sub) (pss_one (ps_ret (pv 1)))))), ?_⟩
    obtain ⟨L, dx, vs, h1, h2, h3⟩ := rs.ex
    have rs1 : RS C RL p (upd H p (.ins C dx (putF "branches" (.int ((b : Int) + 1)) (rF L a n b)))) ts a n (b + 1) := rs.mv h1 K1p.put ⟨dx, by rw [upd_same]; exact congrArg (fun q => some (HO.ins C dx q)) (rF_pB L a n b (b + 1))⟩ rs.le
    have hp : upd H p (.ins C dx (putF "branches" (.int ((b : Int) + 1)) (rF L a n b))) p = some (.ins C dx (rF L a n (b + 1))) := by rw [upd_same]; exact congrArg (fun q => some (HO.ins C dx q)) (rF_pB L a n b (b + 1))
    have kr1 := KR.put (o := .ins C dx (putF "branches" (.int ((b : Int) + 1)) (rF L a n b))) tb (rs.nP tb)
    refine ⟨_, rfl, p, C, dx, _, _, rfl, h1, R.cl, R.nB, rF_br _ _ _ _, _, _, rfl, rfl, dx, _, h1, (by show 4 < 1000; decide), ?_⟩
    refine ⟨_, rfl, p, C, dx, _, _, rfl, hp, R.cl, R.nB, rF_br _ _ _ _, _, _, rfl, rfl, _, rfl, ite2 (fun h => ?_) (fun h => ?_)⟩
    · have : ¬ b + 1 < 12 := by have := of_decide_eq_true h; omega
      exact q1 (by unfold brP; rw [if_neg this]; rfl) _ kr1
    · have lt : b + 1 < 12 := by
        have : ¬ ((12 : Int) ≤ ((b + 1 : Nat) : Int)) := fun z => h (decide_eq_true z)
        omega
      have eb : brP W b = W := if_pos lt
      refine ⟨_, rfl, p, dx, _, rfl, hp, rF_no (by decide +kernel) (by decide +kernel) (by decide +kernel) (by decide +kernel) _ _ _ _, lt, p, ts, a, rfl, rs1, kr1.1, fun e H' kr => ?_, fun t r e H2 v a2 kr rs2 ed tv ht => ?_⟩
      · exact q1 (by rw [eb]; exact e) H' (kr1.trans kr)
      · obtain ⟨L2', dx2, vs2, g1, g2, g3⟩ := rs2.ex
        refine ⟨_, rfl, p, C, dx2, _, _, rfl, g1, R.cl, R.nB, rF_br _ _ _ _, _, _, rfl, rfl, dx2, _, g1, (by show 4 < 1000; decide), ?_⟩
        have ei : (((b + 1 : Nat) : Int) - 1) = (b : Int) := by omega
        refine ⟨_, rfl, q2 t r (by rw [eb]; exact e) _ v a2 ((kr1.trans kr).trans (KR.put kr.1 (rs2.nP kr.1))) (rs2.mv g1 K1p.put ⟨dx2, ?_⟩ rs2.le) ed (TV.imp (K1p.tup K1p.put rs2) t v tv) ht⟩
        rw [upd_same]
        show some (HO.ins C dx2 (putF "branches" (.int (((b + 1 : Nat) : Int) - 1)) _)) = _
        rw [ei]
        exact congrArg (fun q => some (HO.ins C dx2 q)) (rF_pB L2' a2 n (b + 1) b)
/-! ### a name that is set -/
def spTgt (PN C CN RL : Addr) (n b : Nat) : L2.Sp := fun vs H Q E => ∃ p ts a, vs = [.ref p] ∧ RS C RL p H ts a n b ∧ GxR.TabG H PN ∧
  ((∀ l, ts[a]? = some (.word l) → nmB l = false) → ∀ H', KR PN p H H' → E (.ref CN) none H') ∧
  (∀ l, ts[a]? = some (.word l) → nmB l = true → ∀ H', KR PN p H H' → RS C RL p H' ts (a + 1) n b → Q (.str (S l)) H')
theorem nameB_eq (l : List Nat) : nameB (S l) = nmB l := by
  unfold nameB nmB
  have e2 : inV (.str (S l)) (kw13.map V.str) = kwL.contains l := by
    have : ∀ ks : List Str, inV (.str (S l)) (ks.map V.str) = (ks.map K2.code).contains l := fun ks => by
      induction ks with
      | nil => rfl
      | cons k ks ih =>
        show (eqV (.str k) (.str (S l)) || inV (.str (S l)) (ks.map V.str)) = (l == K2.code k || (ks.map K2.code).contains l)
        rw [ih]
        congr 1
        show decide (k = S l) = (l == K2.code k)
        by_cases z : k = S l
        · rw [decide_eq_true z, z]
          exact (beq_self_eq_true l).symm
        · rw [decide_eq_false z]
          refine (beq_eq_false_iff_ne.mpr fun y => z ?_).symm
          rw [y]
          exact (S_of k).symm
    exact this kw13
  rw [e2, S_len]
  rfl
theorem scTgt : FnScope ["self", "kind", "text"] ["self"] (defScope mTarget) := ⟨rfl, rfl, rfl, by decide +kernel, rfl, by decide +kernel, by decide +kernel⟩
theorem ok_target {n b : Nat} {f f1 f2 : Addr} {fd fd1 fd2 : FuncData} (F : Fun K "target" "Reader.target" mTarget f fd) (R : TxR K mg C CN)
    (M1 : MO P w K mg base (L2.CX P w) 4 C "take" ["self"] (spTake C CN RL) f1 fd1) (G2 : FO P w K mg base CX0 1 "is_name" ["text"] (spName PN) f2 fd2) :
    FnOk P w K mg base (L2.CX P w) 5 f fd ["self"] (spTgt PN C CN RL n b) := by
  have sc := scTgt
  refine F.okX sc (fun vs H Q E h => ?_) (fun cdv A outer s H vs Q E hr h => ?_)
  · obtain ⟨p, ts, a, rfl, _⟩ := h
    rfl
  · obtain ⟨p, ts, a, rfl, rs, tb, q1, q2⟩ := h
    have hr1 : Room 1 _ := hr.mono (by decide)
    refine ⟨_, pss_cons (ps_asg (pe_meth0 (pv 0) R.cl M1.mt M1.ok hr M1.bi .nil passE) (pg_tup rfl (pgs_cons (pg_name (i := 1) sc.nd rfl (.inl rfl)) (pgs_cons (pg_name (i := 2) sc.nd rfl (.inl rfl)) pgs_nil))))
      (pss_cons (ps_if (PW.pt (pw_or (pt_cmpR op_ne (pv 1) pe_str (nomark _)) (pw_or1 (pt_not (pt_val (pe_call G2.ok hr1 (by rfl) G2.m G2.kp G2.b .nil pass0 (pa_cons (pv 2) pa_nil)))))))
        (pss_one (ps_raise rfl (takes_of rfl rfl rfl rfl) (pmk_own PySem.F.excBase_ValueError R.xN R.gN R.kN (raises_own R.bN R.tN) rfl))) pss_nil)
      (pss_one (ps_ret (pv 2)))), ?_⟩
    obtain ⟨L, dx, vs, h1, h2, h3⟩ := rs.ex
    refine ⟨_, rfl, p, dx, _, rfl, h1, rF_no (by decide +kernel) (by decide +kernel) (by decide +kernel) (by decide +kernel) _ _ _ _, p, ts, a, n, b, rfl, rs, fun e => ?_, fun t e H' q rs' k hq => ?_⟩
    · exact q1 (fun l z => by rw [e] at z; cases z) H (KR.refl tb)
    have kr := KR.of tb (rs.nP tb) k
    have bad : (∀ l, t ≠ .word l) → E (.ref CN) none H' := fun hk => q1 (fun l z => by rw [e] at z; cases z; exact absurd rfl (hk l)) H' kr
    cases t with
    | num m =>
      refine ⟨q, _, rfl, .inl (.inl hq), rfl, _, _, rfl, _, _, rfl, rfl, ?_⟩
      refine ⟨_, rfl, rfl, _, rfl, ?_⟩
      exact bad (fun l z => by cases z)
    | str m =>
      refine ⟨q, _, rfl, .inl (.inl hq), rfl, _, _, rfl, _, _, rfl, rfl, ?_⟩
      refine ⟨_, rfl, rfl, _, rfl, ?_⟩
      exact bad (fun l z => by cases z)
    | sign m =>
      refine ⟨q, _, rfl, .inl (.inl hq), rfl, _, _, rfl, _, _, rfl, rfl, ?_⟩
      refine ⟨_, rfl, rfl, _, rfl, ?_⟩
      exact bad (fun l z => by cases z)
    | word l =>
      refine ⟨q, _, rfl, .inl (.inl hq), rfl, _, _, rfl, _, _, rfl, rfl, ?_⟩
      refine ⟨_, rfl, rfl, _, rfl, ?_⟩
      refine ⟨_, rfl, _, rfl, by rw [S_len]; exact rs.wd l (List.mem_of_getElem? e), kr.1, fun H2 k2 => ?_⟩
      have np := rs'.nP kr.1
      have k2' : KR PN p H' H2 := ⟨k2.1, fun b o n _ h => k2.2 b o n h⟩
      have rs2 : RS C RL p H2 ts (a + 1) n b := by
        obtain ⟨L, dx, vs, h1, h2, h3⟩ := rs'.ex
        exact ⟨⟨L, dx, vs, k2.2 _ _ np.symm h1, k2.2 _ _ (fun z => by obtain ⟨ps, h, _⟩ := kr.1; rw [z, h] at h2; cases h2) h2, h3.kp kr.1 k2⟩, rs'.le, rs'.sm, rs'.sh, rs'.wd, let ⟨d, e⟩ := rs'.ll; ⟨d, k2.2 _ _ np.symm e⟩⟩
      refine ⟨_, rfl, ?_⟩
      rw [nameB_eq]
      cases hn : nmB l with
      | true => exact iteF ⟨_, rfl, q2 l e hn H2 (kr.trans k2') rs2⟩
      | false => exact iteT (q1 (fun l' z => by rw [e] at z; cases z; exact hn) H2 (kr.trans k2'))
end
end K3

set_option maxRecDepth 100000
set_option maxHeartbeats 4000000
/-! the reader: choices, settings, wholes -/
namespace K3
open PySem hiding Tok
open PySem.Spec PyProof.Rows L2 GD K1
open K2 hiding Sp P
section
variable {P : Program} {w : World} {K : PySem.W.Frag} {mg : Str → Option Value} {base : Heap} {C CN PN RL : Addr}
theorem simple_word {l : List Nat} (h : SeqAt.shaped (tokD (.word l)) = true) : simpleT (.word l) := ⟨.inr ⟨l, rfl⟩, h⟩
theorem word_dp {H : Hp} {q : Addr} {l : List Nat} (h : H q = some (.tup [.str "word", .str (S l)])) : Dp K H (.ref q) (tokD (.word l)) := tokD_dp (t := .word l) h
theorem word_if : simpleT (.word wIf) := simple_word (by decide +kernel)
theorem word_then : simpleT (.word wThen) := simple_word (by decide +kernel)
theorem word_else : simpleT (.word wElse) := simple_word (by decide +kernel)
theorem word_set : simpleT (.word wSet) := simple_word (by decide +kernel)
theorem drop_len {ts : List Tok} {a a2 : Nat} (h : ts.drop a = ts.drop a2) (h1 : a ≤ ts.length) (h2 : a2 ≤ ts.length) : a = a2 := by
  have := congrArg List.length h
  rw [List.length_drop, List.length_drop] at this
  omega
theorem at_drop {ts : List Tok} {a : Nat} {t : Tok} {r : List Tok} (h : ts.drop a = t :: r) : ts[a]? = some t ∧ ts.drop (a + 1) = r := by
  have h1 : ts[a]? = some t := by
    have := congrArg (fun l : List Tok => l[0]?) h
    rw [List.getElem?_drop] at this
    exact this
  refine ⟨h1, ?_⟩
  have := drop_t h1
  rw [h] at this
  exact (List.cons.inj this).2.symm
/-! ### set -/
theorem set_no {wb : PR} {ts : List Tok} {a : Nat} (h : ∀ l, ts[a]? = some (.word l) → nmB l = false) : setP wb (ts.drop a) = none := by
  unfold setP
  split
  · rename_i x r e
    rw [if_neg (by rw [h x (at_drop e).1]; exact Bool.false_ne_true)]
  · rfl
theorem set_no2 {wb : PR} {ts : List Tok} {a : Nat} (h : ts[a + 1]? ≠ some (.sign 61)) : setP wb (ts.drop a) = none := by
  unfold setP
  split
  · rename_i x r e
    have := at_drop e
    exact absurd (at_drop this.2).1 h
  · rfl
theorem set_yes {wb : PR} {ts : List Tok} {a : Nat} {l : List Nat} (h1 : ts[a]? = some (.word l)) (hn : nmB l = true) (h2 : ts[a + 1]? = some (.sign 61)) : setP wb (ts.drop a) = (match wb (ts.drop (a + 2)) with
    | none => none
    | some (t, r) => (bd (.set l t)).map fun t => (t, r)) := by
  rw [drop_t h1, drop_t h2, setP, if_pos hn]
  all_goals rfl
theorem scSet : FnScope ["self", "name"] ["self"] (defScope mSetting) := ⟨rfl, rfl, rfl, by decide +kernel, rfl, by decide +kernel, by decide +kernel⟩
theorem ok_setting {k n b : Nat} {W : PR} {f f1 f2 f3 f4 : Addr} {fd fd1 fd2 fd3 fd4 : FuncData} (F : Fun K "setting" "Reader.setting" mSetting f fd) (R : TxR K mg C CN) (hk : 40 ≤ k)
    (M1 : MO P w K mg base (L2.CX P w) 5 C "target" ["self"] (spTgt PN C CN RL n b) f1 fd1) (M2 : MO P w K mg base (L2.CX P w) 4 C "expect" ["self", "token"] (spExpect K C CN RL) f2 fd2)
    (M3 : MO P w K mg base (L2.CX P w) k C "branch" ["self"] (spPR PN C CN RL W n b) f3 fd3) (FB : FO P w K mg base (L2.CX P w) 40 "bounded" ["tree"] (spBnd CN) f4 fd4) :
    FnOk P w K mg base (L2.CX P w) (k + 1) f fd ["self"] (spPR PN C CN RL (setP W) n b) := by
  have sc := scSet
  refine F.okX sc (fun vs H Q E h => ?_) (fun cdv A outer s H vs Q E hr h => ?_)
  · obtain ⟨p, ts, a, rfl, _⟩ := h
    rfl
  · obtain ⟨p, ts, a, rfl, rs, tb, q1, q2⟩ := h
    have hr4 : Room 4 _ := hr.mono (by omega)
    have hr5 : Room 5 _ := hr.mono (by omega)
    have hrB : Room 40 _ := hr.mono hk
    refine ⟨_, pss_cons (ps_set (i := 1) sc.nd rfl (.inl rfl) (pe_meth0 (pv 0) R.cl M1.mt M1.ok hr5 M1.bi .nil passE))
      (pss_cons (ps_expr (pe_meth (pv 0) R.cl M2.mt M2.ok hr4 M2.bi .nil passE (pa_cons (pe_tup (pa_cons pe_str (pa_cons pe_str pa_nil))) pa_nil)))
      (pss_one (ps_ret (pe_call FB.ok hrB (by rfl) FB.m FB.kp FB.b .nil passE (pa_cons (pe_tup (pa_cons pe_str (pa_cons (pv 1) (pa_cons (pe_meth0 (pv 0) R.cl M3.mt M3.ok hr M3.bi .nil passE) pa_nil)))) pa_nil))))), ?_⟩
    obtain ⟨L, dx, vs, h1, h2, h3⟩ := rs.ex
    refine ⟨_, rfl, p, dx, _, rfl, h1, rF_no (by decide +kernel) (by decide +kernel) (by decide +kernel) (by decide +kernel) _ _ _ _, p, ts, a, rfl, rs, tb, fun e H' kr => ?_, fun l e hn H1 kr rs1 => ?_⟩
    · exact q1 (set_no e) H' kr
    obtain ⟨L, dx1, vs, g1, _, _⟩ := rs1.ex
    refine ⟨_, rfl, p, dx1, _, rfl, g1, rF_no (by decide +kernel) (by decide +kernel) (by decide +kernel) (by decide +kernel) _ _ _ _, two_le, fun q nq => ?_⟩
    have rs2 := rs1.new (o := .tup [.str "sign", .str "="]) nq
    have kr2 : KR PN p H (upd H1 q (.tup [.str "sign", .str "="])) := kr.trans (KR.new kr.1 nq)
    refine ⟨p, ts, a + 1, n, b, _, .sign 61, rfl, rs2, sign_dp upd_same, simple_sign (by decide), fun z => ?_, fun z H2 r2 k2 => ?_⟩
    · exact q1 (set_no2 z) _ kr2
    have kr3 : KR PN p H H2 := kr2.trans (KR.of kr2.1 (rs2.nP kr2.1) k2)
    have es := set_yes (wb := W) e hn z
    obtain ⟨L, dx2, vs, i1, _, _⟩ := r2.ex
    refine ⟨_, rfl, _, rfl, p, dx2, _, rfl, i1, rF_no (by decide +kernel) (by decide +kernel) (by decide +kernel) (by decide +kernel) _ _ _ _, p, ts, a + 1 + 1, rfl, r2, kr3.1, fun e H3 k3 => ?_, fun u r3 e H3 v3 a3 k3 rs3 ed3 tv3 hu => ?_⟩
    · exact q1 (by rw [es, e]) H3 (kr3.trans k3)
    · refine ⟨three_le, fun x nx => ?_⟩
      have kx : KR PN p H (upd H3 x (.tup [.str "set", .str (S l), v3])) := (kr3.trans k3).trans (KR.new k3.1 nx)
      have e : W (ts.drop (a + 2)) = some (u, r3) := e
      rw [e] at es
      have es : setP W (ts.drop a) = (bd (.set l u)).map fun t => (t, r3) := es
      unfold bd at es
      refine ⟨_, .set l u, rfl, ?_, by rw [hgt]; omega, fun hh H4 s4 => ?_, fun hh H4 s4 => ?_⟩
      · rw [TV]
        exact ⟨x, v3, rfl, upd_same, TV.imp (newtup nx) u v3 tv3⟩
      · rw [if_neg (by omega)] at es
        exact q1 es H4 (kx.trans (Same.kr s4 kx.1))
      · rw [if_pos hh] at es
        refine q2 _ _ es H4 _ a3 (kx.trans (Same.kr s4 kx.1)) ((rs3.new nx).keep s4) ed3 ?_ hh
        rw [TV]
        exact ⟨x, v3, rfl, s4 _ _ upd_same, TV.imp (fun q xs hq => s4 _ _ (newtup nx q xs hq)) u v3 tv3⟩
/-! ### if -/
theorem after_no {x : List Nat} {f : PR} {ts : List Tok} {a : Nat} (h : ts[a]? ≠ some (.word x)) : afterW x f (ts.drop a) = none := by
  unfold afterW
  split
  · rename_i y r e
    split
    · rename_i z
      rw [z] at e
      exact absurd (at_drop e).1 h
    · rfl
  · rfl
theorem after_yes {x : List Nat} {f : PR} {ts : List Tok} {a : Nat} (h : ts[a]? = some (.word x)) : afterW x f (ts.drop a) = f (ts.drop (a + 1)) := by
  rw [drop_t h]
  exact after_eq x f _
theorem scChoice : FnScope ["self", "test", "first"] ["self"] (defScope mChoice) := ⟨rfl, rfl, rfl, by decide +kernel, rfl, by decide +kernel, by decide +kernel⟩
theorem four_le : 4 ≤ sizeLine := by decide
theorem ok_choice {k n b : Nat} {W : PR} {f f2 f3 f4 : Addr} {fd fd2 fd3 fd4 : FuncData} (F : Fun K "choice" "Reader.choice" mChoice f fd) (R : TxR K mg C CN) (hk : 40 ≤ k)
    (M2 : MO P w K mg base (L2.CX P w) 4 C "expect" ["self", "token"] (spExpect K C CN RL) f2 fd2)
    (M3 : MO P w K mg base (L2.CX P w) k C "branch" ["self"] (spPR PN C CN RL W n b) f3 fd3) (FB : FO P w K mg base (L2.CX P w) 40 "bounded" ["tree"] (spBnd CN) f4 fd4) :
    FnOk P w K mg base (L2.CX P w) (k + 1) f fd ["self"] (spPR PN C CN RL (iteP W) n b) := by
  have sc := scChoice
  refine F.okX sc (fun vs H Q E h => ?_) (fun cdv A outer s H vs Q E hr h => ?_)
  · obtain ⟨p, ts, a, rfl, _⟩ := h
    rfl
  · obtain ⟨p, ts, a, rfl, rs, tb, q1, q2⟩ := h
    have hr4 : Room 4 _ := hr.mono (by omega)
    have hrB : Room 40 _ := hr.mono hk
    refine ⟨_, pss_cons (ps_set (i := 1) sc.nd rfl (.inl rfl) (pe_meth0 (pv 0) R.cl M3.mt M3.ok hr M3.bi .nil passE))
      (pss_cons (ps_expr (pe_meth (pv 0) R.cl M2.mt M2.ok hr4 M2.bi .nil passE (pa_cons (pe_tup (pa_cons pe_str (pa_cons pe_str pa_nil))) pa_nil)))
      (pss_cons (ps_set (i := 2) sc.nd rfl (.inl rfl) (pe_meth0 (pv 0) R.cl M3.mt M3.ok hr M3.bi .nil passE))
      (pss_cons (ps_expr (pe_meth (pv 0) R.cl M2.mt M2.ok hr4 M2.bi .nil passE (pa_cons (pe_tup (pa_cons pe_str (pa_cons pe_str pa_nil))) pa_nil)))
      (pss_one (ps_ret (pe_call FB.ok hrB (by rfl) FB.m FB.kp FB.b .nil passE (pa_cons (pe_tup (pa_cons pe_str (pa_cons (pv 1) (pa_cons (pv 2) (pa_cons (pe_meth0 (pv 0) R.cl M3.mt M3.ok hr M3.bi .nil passE) pa_nil))))) pa_nil))))))), ?_⟩
    obtain ⟨L, dx, vs, h1, h2, h3⟩ := rs.ex
    refine ⟨_, rfl, p, dx, _, rfl, h1, rF_no (by decide +kernel) (by decide +kernel) (by decide +kernel) (by decide +kernel) _ _ _ _, p, ts, a, rfl, rs, tb, fun e H' kr => ?_, fun t r e H1 v a1 kr rs1 ed tv ht => ?_⟩
    · exact q1 (by unfold iteP; rw [e]) H' kr
    have e0 : iteP W (ts.drop a) = afterW wThen (fun r => match W r with
      | none => none
      | some (b, r) => afterW wElse (fun r => match W r with
        | none => none
        | some (c, r) => (bd (.ite t b c)).map fun t => (t, r)) r) (ts.drop a1) := by
      unfold iteP
      rw [e, ed]
      all_goals rfl
    obtain ⟨L, dx1, vs, g1, _, _⟩ := rs1.ex
    refine ⟨_, rfl, p, dx1, _, rfl, g1, rF_no (by decide +kernel) (by decide +kernel) (by decide +kernel) (by decide +kernel) _ _ _ _, two_le, fun q nq => ?_⟩
    have rs2 := rs1.new (o := .tup [.str "word", .str "then"]) nq
    have kr2 : KR PN p H (upd H1 q (.tup [.str "word", .str "then"])) := kr.trans (KR.new kr.1 nq)
    refine ⟨p, ts, a1, n, b, _, .word wThen, rfl, rs2, word_dp upd_same, word_then, fun z => ?_, fun z H2 r2 k2 => ?_⟩
    · exact q1 (by rw [e0]; exact after_no z) _ kr2
    have kr3 : KR PN p H H2 := kr2.trans (KR.of kr2.1 (rs2.nP kr2.1) k2)
    have tv3 : TV H2 t v := TV.imp (K1p.tup k2 rs2) t v (TV.imp (newtup nq) t v tv)
    rw [after_yes z] at e0
    obtain ⟨L, dx2, vs, i1, _, _⟩ := r2.ex
    refine ⟨_, rfl, p, dx2, _, rfl, i1, rF_no (by decide +kernel) (by decide +kernel) (by decide +kernel) (by decide +kernel) _ _ _ _, p, ts, a1 + 1, rfl, r2, kr3.1, fun e H3 k3 => ?_, fun t2 r3 e H3 v2 a3 k3 rs3 ed3 tu3 hu => ?_⟩
    · exact q1 (by rw [e0, e]) H3 (kr3.trans k3)
    rw [e] at e0
    have e0 : iteP W (ts.drop a) = afterW wElse (fun r => match W r with
        | none => none
        | some (c, r) => (bd (.ite t t2 c)).map fun t => (t, r)) r3 := e0
    rw [← ed3] at e0
    have tv4 : TV H3 t v := TV.imp (k3.tup r2 kr3.1) t v tv3
    have kr4 := kr3.trans k3
    obtain ⟨L, dx3, vs, j1, _, _⟩ := rs3.ex
    refine ⟨_, rfl, p, dx3, _, rfl, j1, rF_no (by decide +kernel) (by decide +kernel) (by decide +kernel) (by decide +kernel) _ _ _ _, two_le, fun q' nq' => ?_⟩
    have rs5 := rs3.new (o := .tup [.str "word", .str "else"]) nq'
    have kr5 : KR PN p H (upd H3 q' (.tup [.str "word", .str "else"])) := kr4.trans (KR.new kr4.1 nq')
    refine ⟨p, ts, a3, n, b, _, .word wElse, rfl, rs5, word_dp upd_same, word_else, fun z => ?_, fun z H4 r4 k4 => ?_⟩
    · exact q1 (by rw [e0]; exact after_no z) _ kr5
    have kr6 : KR PN p H H4 := kr5.trans (KR.of kr5.1 (rs5.nP kr5.1) k4)
    have tv6 : TV H4 t v := TV.imp (K1p.tup k4 rs5) t v (TV.imp (newtup nq') t v tv4)
    have tu6 : TV H4 t2 v2 := TV.imp (K1p.tup k4 rs5) t2 v2 (TV.imp (newtup nq') t2 v2 tu3)
    rw [after_yes z] at e0
    obtain ⟨L, dx4, vs, l1, _, _⟩ := r4.ex
    refine ⟨_, rfl, _, rfl, _, rfl, p, dx4, _, rfl, l1, rF_no (by decide +kernel) (by decide +kernel) (by decide +kernel) (by decide +kernel) _ _ _ _, p, ts, a3 + 1, rfl, r4, kr6.1, fun e H5 k5 => ?_, fun t3 r5 e H5 v3 a5 k5 rs5' ed5 tw hw => ?_⟩
    · exact q1 (by rw [e0, e]) H5 (kr6.trans k5)
    rw [e] at e0
    have es : iteP W (ts.drop a) = (bd (.ite t t2 t3)).map fun t => (t, r5) := e0
    refine ⟨four_le, fun x nx => ?_⟩
    have tv7 : TV H5 t v := TV.imp (k5.tup r4 kr6.1) t v tv6
    have tu7 : TV H5 t2 v2 := TV.imp (k5.tup r4 kr6.1) t2 v2 tu6
    have kx : KR PN p H (upd H5 x (.tup [.str "if", v, v2, v3])) := (kr6.trans k5).trans (KR.new k5.1 nx)
    unfold bd at es
    refine ⟨_, .ite t t2 t3, rfl, ?_, by rw [hgt]; omega, fun hh H6 s6 => ?_, fun hh H6 s6 => ?_⟩
    · rw [TV]
      exact ⟨x, v, v2, v3, rfl, upd_same, TV.imp (newtup nx) t v tv7, TV.imp (newtup nx) t2 v2 tu7, TV.imp (newtup nx) t3 v3 tw⟩
    · rw [if_neg (by omega)] at es
      exact q1 es H6 (kx.trans (Same.kr s6 kx.1))
    · rw [if_pos hh] at es
      refine q2 _ _ es H6 _ a5 (kx.trans (Same.kr s6 kx.1)) ((rs5'.new nx).keep s6) ed5 ?_ hh
      rw [TV]
      have nn : ∀ q xs, H5 q = some (.tup xs) → H6 q = some (.tup xs) := fun q xs hq => s6 _ _ (newtup nx q xs hq)
      exact ⟨x, v, v2, v3, rfl, s6 _ _ upd_same, TV.imp nn t v tv7, TV.imp nn t2 v2 tu7, TV.imp nn t3 v3 tw⟩
/-! ### whole -/
theorem whole_else {wb a : PR} {ts : List Tok} {i : Nat} (h1 : ts[i]? ≠ some (.word wIf)) (h2 : ts[i]? ≠ some (.word wSet)) : wholeP wb a (ts.drop i) = cmpP a (ts.drop i) := by
  unfold wholeP
  split
  · rename_i w r e
    have := (at_drop e).1
    rw [if_neg (fun z => h1 (by rw [this, z])), if_neg (fun z => h2 (by rw [this, z])), ← e]
  · rfl
theorem scWhole : FnScope ["self"] ["self"] (defScope mWhole) := ⟨rfl, rfl, rfl, by decide +kernel, rfl, by decide +kernel, by decide +kernel⟩
theorem ok_whole {k n b : Nat} {W A0 : PR} {f f1 f2 f3 f4 : Addr} {fd fd1 fd2 fd3 fd4 : FuncData} (F : Fun K "whole" "Reader.whole" mWhole f fd) (R : TxR K mg C CN) (hk : 40 ≤ k)
    (M1 : MO P w K mg base CX0 3 C "accept" ["self", "token"] (spAccept K C RL) f1 fd1) (M2 : MO P w K mg base (L2.CX P w) k C "choice" ["self"] (spPR PN C CN RL (iteP W) n b) f2 fd2)
    (M3 : MO P w K mg base (L2.CX P w) k C "setting" ["self"] (spPR PN C CN RL (setP W) n b) f3 fd3) (M4 : MO P w K mg base (L2.CX P w) k C "compared" ["self"] (spPR PN C CN RL (cmpP A0) n b) f4 fd4) :
    FnOk P w K mg base (L2.CX P w) (k + 1) f fd ["self"] (spPR PN C CN RL (wholeP W A0) n b) := by
  have sc := scWhole
  refine F.okX sc (fun vs H Q E h => ?_) (fun cdv A outer s H vs Q E hr h => ?_)
  · obtain ⟨p, ts, a, rfl, _⟩ := h
    rfl
  · obtain ⟨p, ts, a, rfl, rs, tb, q1, q2⟩ := h
    have hr3 : Room 3 _ := hr.mono (by omega)
    refine ⟨_, pss_cons (ps_if (pt_val (pe_meth (pv 0) R.cl M1.mt M1.ok hr3 M1.bi .nil pass0 (pa_cons (pe_tup (pa_cons pe_str (pa_cons pe_str pa_nil))) pa_nil))) (pss_one (ps_ret (pe_meth0 (pv 0) R.cl M2.mt M2.ok hr M2.bi .nil passE))) pss_nil)
      (pss_cons (ps_if (pt_val (pe_meth (pv 0) R.cl M1.mt M1.ok hr3 M1.bi .nil pass0 (pa_cons (pe_tup (pa_cons pe_str (pa_cons pe_str pa_nil))) pa_nil))) (pss_one (ps_ret (pe_meth0 (pv 0) R.cl M3.mt M3.ok hr M3.bi .nil passE))) pss_nil)
      (pss_one (ps_ret (pe_meth0 (pv 0) R.cl M4.mt M4.ok hr M4.bi .nil passE)))), ?_⟩
    obtain ⟨L, dx, vs, h1, h2, h3⟩ := rs.ex
    refine ⟨_, rfl, p, dx, _, rfl, h1, rF_no (by decide +kernel) (by decide +kernel) (by decide +kernel) (by decide +kernel) _ _ _ _, two_le, fun q nq => ?_⟩
    have rs2 := rs.new (o := .tup [.str "word", .str "if"]) nq
    have kr2 : KR PN p H (upd H q (.tup [.str "word", .str "if"])) := KR.new tb nq
    refine ⟨p, ts, a, n, b, _, .word wIf, rfl, rs2, word_dp upd_same, word_if, fun z => ?_, fun z H2 r2 k2 => ?_⟩
    rotate_left
    · have kr3 : KR PN p H H2 := kr2.trans (KR.of kr2.1 (rs2.nP kr2.1) k2)
      have ew : wholeP W A0 (ts.drop a) = iteP W (ts.drop (a + 1)) := by rw [drop_t z]; exact whole_if _ _ _
      refine ⟨_, rfl, iteT ?_⟩
      obtain ⟨L, dx2, vs, i1, _, _⟩ := r2.ex
      refine ⟨_, rfl, p, dx2, _, rfl, i1, rF_no (by decide +kernel) (by decide +kernel) (by decide +kernel) (by decide +kernel) _ _ _ _, p, ts, a + 1, rfl, r2, kr3.1, fun e H3 k3 => ?_, fun u r3 e H3 v3 a3 k3 rs3 ed3 tv3 hu => ?_⟩
      · exact q1 (ew.trans e) H3 (kr3.trans k3)
      · exact q2 u r3 (ew.trans e) H3 v3 a3 (kr3.trans k3) rs3 ed3 tv3 hu
    refine ⟨_, rfl, iteF ?_⟩
    obtain ⟨L, dx, vs, g1, _, _⟩ := rs2.ex
    refine ⟨_, rfl, p, dx, _, rfl, g1, rF_no (by decide +kernel) (by decide +kernel) (by decide +kernel) (by decide +kernel) _ _ _ _, two_le, fun q' nq' => ?_⟩
    have rs4 := rs2.new (o := .tup [.str "word", .str "set"]) nq'
    have kr4 : KR PN p H (upd (upd H q (.tup [.str "word", .str "if"])) q' (.tup [.str "word", .str "set"])) := kr2.trans (KR.new kr2.1 nq')
    refine ⟨p, ts, a, n, b, _, .word wSet, rfl, rs4, word_dp upd_same, word_set, fun z2 => ?_, fun z2 H2 r2 k2 => ?_⟩
    rotate_left
    · have kr3 : KR PN p H H2 := kr4.trans (KR.of kr4.1 (rs4.nP kr4.1) k2)
      have ew : wholeP W A0 (ts.drop a) = setP W (ts.drop (a + 1)) := by rw [drop_t z2]; exact whole_set _ _ _
      refine ⟨_, rfl, iteT ?_⟩
      obtain ⟨L, dx2, vs, i1, _, _⟩ := r2.ex
      refine ⟨_, rfl, p, dx2, _, rfl, i1, rF_no (by decide +kernel) (by decide +kernel) (by decide +kernel) (by decide +kernel) _ _ _ _, p, ts, a + 1, rfl, r2, kr3.1, fun e H3 k3 => ?_, fun u r3 e H3 v3 a3 k3 rs3 ed3 tv3 hu => ?_⟩
      · exact q1 (ew.trans e) H3 (kr3.trans k3)
      · exact q2 u r3 (ew.trans e) H3 v3 a3 (kr3.trans k3) rs3 ed3 tv3 hu
    refine ⟨_, rfl, iteF ?_⟩
    have ew := whole_else (wb := W) (a := A0) z z2
    obtain ⟨L, dx, vs, g1, _, _⟩ := rs4.ex
    refine ⟨_, rfl, p, dx, _, rfl, g1, rF_no (by decide +kernel) (by decide +kernel) (by decide +kernel) (by decide +kernel) _ _ _ _, p, ts, a, rfl, rs4, kr4.1, fun e H3 k3 => ?_, fun u r3 e H3 v3 a3 k3 rs3 ed3 tv3 hu => ?_⟩
    · exact q1 (ew.trans e) H3 (kr4.trans k3)
    · exact q2 u r3 (ew.trans e) H3 v3 a3 (kr4.trans k3) rs3 ed3 tv3 hu
end
end K3

set_option maxRecDepth 100000
set_option maxHeartbeats 4000000
/-! the reader: parentheses -/
namespace K3
open PySem hiding Tok
open PySem.Spec PyProof.Rows L2 GD K1
open K2 hiding Sp P
abbrev mAtom : Stmt := inClass cRead 15
abbrev mArgs : Stmt := inClass cRead 16
abbrev mSeq : Stmt := inClass cRead 17
abbrev mWholes : Stmt := inClass cRead 18
abbrev mEnter : Stmt := inClass cRead 19
abbrev mLeave : Stmt := inClass cRead 20
section
variable {P : Program} {w : World} {K : PySem.W.Frag} {mg : Str → Option Value} {base : Heap} {C CN PN RL : Addr}
def spEnter (C CN RL : Addr) : L2.Sp := fun vs H Q E => ∃ p ts a n b, vs = [.ref p] ∧ RS C RL p H ts a n b ∧
  (10 < n + 1 → ∀ H', K1p p H H' → E (.ref CN) none H') ∧ (n + 1 ≤ 10 → ∀ H', K1p p H H' → RS C RL p H' ts a (n + 1) b → Q .non H')
theorem scEnter : FnScope ["self"] ["self"] (defScope mEnter) := ⟨rfl, rfl, rfl, by decide +kernel, rfl, by decide +kernel, by decide +kernel⟩
theorem ok_enter {f : Addr} {fd : FuncData} (F : Fun K "enter" "Reader.enter" mEnter f fd) (R : TxR K mg C CN) : FnOk P w K mg base (L2.CX P w) 1 f fd ["self"] (spEnter C CN RL) := by
  have sc := scEnter
  obtain ⟨t10, g10⟩ := R.NESTED
  refine F.okX sc (fun vs H Q E h => ?_) (fun cdv A outer s H vs Q E hr h => ?_)
  · obtain ⟨p, ts, a, n, b, rfl, _⟩ := h
    rfl
  · obtain ⟨p, ts, a, n, b, rfl, rs, q1, q2⟩ := h
    refine ⟨_, pss_cons (ps_fldaug (pv 0) pe_int in_add) (pss_one (ps_if (pt_cmpR op_gt (pe_fld (pv 0) rfl) (pe_gint rfl g10) (nomark _))
        (pss_one (ps_raise rfl (takes_of rfl rfl rfl rfl) (pmk_own PySem.F.excBase_ValueError R.xN R.gN R.kN (raises_own R.bN R.tN) rfl))) pss_nil)), ?_⟩
    obtain ⟨L, dx, vs, h1, h2, h3⟩ := rs.ex
    have rs1 : RS C RL p (upd H p (.ins C dx (putF "nested" (.int ((n : Int) + 1)) (rF L a n b)))) ts a (n + 1) b := rs.mv h1 K1p.put ⟨dx, by rw [upd_same]; exact congrArg (fun q => some (HO.ins C dx q)) (rF_pN L a n b (n + 1))⟩ rs.le
    have hp : upd H p (.ins C dx (putF "nested" (.int ((n : Int) + 1)) (rF L a n b))) p = some (.ins C dx (rF L a (n + 1) b)) := by rw [upd_same]; exact congrArg (fun q => some (HO.ins C dx q)) (rF_pN L a n b (n + 1))
    refine ⟨_, rfl, p, C, dx, _, _, rfl, h1, R.cl, R.nN, rF_nest _ _ _ _, _, _, rfl, rfl, dx, _, h1, (by show 4 < 1000; decide), ?_⟩
    refine ⟨_, rfl, p, C, dx, _, _, rfl, hp, R.cl, R.nN, rF_nest _ _ _ _, _, _, rfl, rfl, _, rfl, ite2 (fun h => ?_) (fun h => ?_)⟩
    · exact q1 (by have := of_decide_eq_true h; omega) _ K1p.put
    · refine q2 ?_ _ K1p.put rs1
      have : ¬ ((10 : Int) < ((n + 1 : Nat) : Int)) := fun z => h (decide_eq_true z)
      omega
def spLeave (C CN RL : Addr) : L2.Sp := fun vs H Q E => ∃ p ts a n b, vs = [.ref p] ∧ RS C RL p H ts a (n + 1) b ∧
  (ts[a]? ≠ some (.sign 41) → E (.ref CN) none H) ∧ (ts[a]? = some (.sign 41) → ∀ H', K1p p H H' → RS C RL p H' ts (a + 1) n b → Q .non H')
theorem scLeave : FnScope ["self"] ["self"] (defScope mLeave) := ⟨rfl, rfl, rfl, by decide +kernel, rfl, by decide +kernel, by decide +kernel⟩
theorem ok_leave {f f2 : Addr} {fd fd2 : FuncData} (F : Fun K "leave" "Reader.leave" mLeave f fd) (R : TxR K mg C CN) (M2 : MO P w K mg base (L2.CX P w) 4 C "expect" ["self", "token"] (spExpect K C CN RL) f2 fd2) :
    FnOk P w K mg base (L2.CX P w) 5 f fd ["self"] (spLeave C CN RL) := by
  have sc := scLeave
  obtain ⟨rc, gc, sqc⟩ := R.CLOSING
  refine F.okX sc (fun vs H Q E h => ?_) (fun cdv A outer s H vs Q E hr h => ?_)
  · obtain ⟨p, ts, a, n, b, rfl, _⟩ := h
    rfl
  · obtain ⟨p, ts, a, n, b, rfl, rs, q1, q2⟩ := h
    refine ⟨_, pss_cons (ps_expr (pe_meth (pv 0) R.cl M2.mt M2.ok hr M2.bi .nil passE (pa_cons (pe_glob (v := .ref rc) rfl gc rfl) pa_nil))) (pss_one (ps_fldaug (pv 0) pe_int in_sub)), ?_⟩
    obtain ⟨L, dx, vs, h1, h2, h3⟩ := rs.ex
    refine ⟨_, rfl, p, dx, _, rfl, h1, rF_no (by decide +kernel) (by decide +kernel) (by decide +kernel) (by decide +kernel) _ _ _ _, p, ts, a, n + 1, b, _, .sign 41, rfl, rs, .tup (sqc H) (.cons (.str _) (.cons (.str _) .nil)), simple_sign (by decide), fun z => q1 z, fun z H2 r2 k2 => ?_⟩
    obtain ⟨L, dx2, vs, g1, _, _⟩ := r2.ex
    refine ⟨_, rfl, p, C, dx2, _, _, rfl, g1, R.cl, R.nN, rF_nest _ _ _ _, _, _, rfl, rfl, dx2, _, g1, (by show 4 < 1000; decide), ?_⟩
    have ei : (((n + 1 : Nat) : Int) - 1) = (n : Int) := by omega
    refine q2 z _ (k2.trans K1p.put) (r2.mv g1 K1p.put ⟨dx2, ?_⟩ r2.le)
    rw [upd_same]
    show some (HO.ins C dx2 (putF "nested" (.int (((n + 1 : Nat) : Int) - 1)) _)) = _
    rw [ei]
    exact congrArg (fun q => some (HO.ins C dx2 q)) (rF_pN L (a + 1) (n + 1) b n)
/-! ### wholes -/
theorem newlst' {H : Hp} {D : Addr} {xs ys : List V} (h : H D = some (.lst xs)) : ∀ q zs, H q = some (.tup zs) → upd H D (.lst ys) q = some (.tup zs) := fun q zs hq => by rw [upd_ne (ne_of hq h (by intro z; cases z))]; exact hq
theorem rF_inj {L M : Addr} {a n b a' n' b' : Nat} (h : rF L a n b = rF M a' n' b') : L = M := by
  have := congrArg (fun l : List (Str × V) => l.head?.map (·.2)) h
  have this : some (V.ref L) = some (V.ref M) := this
  injection this with this
  injection this
/-- another list is changed -/
theorem RS.lst {p D : Addr} {H : Hp} {ts : List Tok} {a n b : Nat} {xs ys : List V} (h : RS C RL p H ts a n b) (nD : RL ≠ D) (e : H D = some (.lst xs)) : RS C RL p (upd H D (.lst ys)) ts a n b := by
  obtain ⟨d9, e9⟩ := h.ll
  obtain ⟨L, dx, vs, h1, h2, h3⟩ := h.ex
  have eL : L = RL := by
    rw [h1] at e9
    have e9 := Option.some.inj e9
    have e9 : rF L a n b = rF RL a n b := by injection e9
    exact rF_inj e9
  have np : p ≠ D := ne_of h1 e (by intro z; cases z)
  exact ⟨⟨L, dx, vs, by rw [upd_ne np]; exact h1, by rw [upd_ne (by rw [eL]; exact nD)]; exact h2, h3.imp fun q t hq => newlst' e q _ hq⟩, h.le, h.sm, h.sh, h.wd, d9, by rw [upd_ne np]; exact e9⟩

def tailM (W : PR) (sep m : Nat) (ts : List Tok) : Option (List Tr × List Tok) := match ts with
  | .sign c :: r => if c = sep then many W sep m r else some ([], .sign c :: r)
  | r => some ([], r)
theorem many_tail (W : PR) (sep m : Nat) (ts : List Tok) : many W sep (m + 1) ts = (match W ts with
    | none => none
    | some (t, r) => (tailM W sep m r).map fun x => (t :: x.1, x.2)) := by
  rw [many]
  cases W ts with
  | none => rfl
  | some x =>
    obtain ⟨t, r⟩ := x
    cases r with
    | nil => rfl
    | cons y r =>
      cases y with
      | sign c =>
        show (if c = sep then _ else _) = (if c = sep then many W sep m r else some ([], .sign c :: r)).map _
        by_cases h : c = sep
        · rw [if_pos h, if_pos h]
          cases many W sep m r with
          | none => rfl
          | some z => rfl
        · rw [if_neg h, if_neg h]
          rfl
      | word _ => rfl
      | num _ => rfl
      | str _ => rfl
theorem tail_no {W : PR} {sep m : Nat} {ts : List Tok} {a : Nat} (h : ts[a]? ≠ some (.sign sep)) : tailM W sep m (ts.drop a) = some ([], ts.drop a) := by
  unfold tailM
  split
  · rename_i c r e
    rw [if_neg (fun z => h (by rw [(at_drop e).1, z])), ← e]
  · rfl
theorem tail_yes {W : PR} {sep m : Nat} {ts : List Tok} {a : Nat} (h : ts[a]? = some (.sign sep)) : tailM W sep m (ts.drop a) = many W sep m (ts.drop (a + 1)) := by
  rw [drop_t h]
  exact if_pos rfl
theorem TVs.snoc {H : Hp} {t : Tr} {v : V} (h : TV H t v) : ∀ {ts : List Tr} {vs : List V}, TVs H ts vs → TVs H (ts ++ [t]) (vs ++ [v])
  | [], vs, k => by
    rw [TVs] at k
    rw [k]
    show TVs H (t :: []) [v]
    rw [TVs]
    exact ⟨v, [], rfl, h, by rw [TVs]⟩
  | u :: ts, vs, k => by
    rw [TVs] at k
    obtain ⟨x, r, e, k1, k2⟩ := k
    rw [e]
    show TVs H (u :: (ts ++ [t])) (x :: (r ++ [v]))
    rw [TVs]
    exact ⟨x, _, rfl, k1, TVs.snoc h k2⟩
theorem TVs.len {H : Hp} : ∀ {ts : List Tr} {vs : List V}, TVs H ts vs → vs.length = ts.length
  | [], vs, k => by rw [TVs] at k; rw [k]; rfl
  | u :: ts, vs, k => by
    rw [TVs] at k
    obtain ⟨x, r, e, k1, k2⟩ := k
    rw [e, List.length_cons, List.length_cons, TVs.len k2]
def spWholes (PN C CN RL : Addr) (W : PR) (n b : Nat) : L2.Sp := fun vs H Q E => ∃ p ts a sep, vs = [.ref p, .str (S [sep])] ∧ sep < 128 ∧ RS C RL p H ts a n b ∧ GxR.TabG H PN ∧
  (many W sep ((ts.drop a).length + 1) (ts.drop a) = none → ∀ H', KR PN p H H' → E (.ref CN) none H') ∧
  (∀ l r, many W sep ((ts.drop a).length + 1) (ts.drop a) = some (l, r) → ∀ H' D vs a', KR PN p H H' → RS C RL p H' ts a' n b → ts.drop a' = r → H D = none → H' D = some (.lst vs) → TVs H' l vs → (∀ t ∈ l, hgt t ≤ 12) → l ≠ [] → l.length ≤ 5000 → Q (.ref D) H')
theorem scWholes : FnScope ["self", "between", "trees"] ["self", "between"] (defScope mWholes) := ⟨rfl, rfl, rfl, by decide +kernel, rfl, by decide +kernel, by decide +kernel⟩
theorem newlst {H : Hp} {D : Addr} {xs ys : List V} (h : H D = some (.lst xs)) : ∀ q zs, H q = some (.tup zs) → upd H D (.lst ys) q = some (.tup zs) := fun q zs hq => by rw [upd_ne (ne_of hq h (by intro z; cases z))]; exact hq
theorem ok_wholes {k n b : Nat} {W : PR} {f f1 f2 : Addr} {fd fd1 fd2 : FuncData} (F : Fun K "wholes" "Reader.wholes" mWholes f fd) (R : TxR K mg C CN) (sW : Sd W) (hk : 40 ≤ k)
    (M1 : MO P w K mg base CX0 3 C "accept" ["self", "token"] (spAccept K C RL) f1 fd1) (M2 : MO P w K mg base (L2.CX P w) k C "whole" ["self"] (spPR PN C CN RL W n b) f2 fd2) :
    FnOk P w K mg base (L2.CX P w) (k + 1) f fd ["self", "between"] (spWholes PN C CN RL W n b) := by
  have sc := scWholes
  refine F.okX sc (fun vs H Q E h => ?_) (fun cdv A outer s H vs Q E hr h => ?_)
  · obtain ⟨p, ts, a, sep, rfl, _⟩ := h
    rfl
  · obtain ⟨p, ts, a, sep, rfl, hs, rs, tb, q1, q2⟩ := h
    have hr3 : Room 3 _ := hr.mono (by omega)
    refine ⟨_, pss_cons (ps_set (i := 2) sc.nd rfl (.inl rfl) (pe_lst (pa_cons (pe_meth0 (pv 0) R.cl M2.mt M2.ok hr M2.bi .nil passE) pa_nil)))
      (pss_cons (ps_while (passes_of rfl) (pt_val (pe_meth (pv 0) R.cl M1.mt M1.ok hr3 M1.bi .nil pass0 (pa_cons (pe_tup (pa_cons pe_str (pa_cons (pv 1) pa_nil))) pa_nil)))
        (pss_one (ps_expr (pe_bm PySem.F.plainAttrs_list PySem.F.slot_list_append PySem.F.type_list_append mt_append (pv 2) (pa_cons (pe_meth0 (pv 0) R.cl M2.mt M2.ok hr M2.bi .nil passE) pa_nil)))))
      (pss_one (ps_ret (pv 2)))), ?_⟩
    obtain ⟨L, dx, vs, h1, h2, h3⟩ := rs.ex
    rw [many_tail] at q1
    rw [many_tail] at q2
    refine ⟨_, rfl, p, dx, _, rfl, h1, rF_no (by decide +kernel) (by decide +kernel) (by decide +kernel) (by decide +kernel) _ _ _ _, p, ts, a, rfl, rs, tb, fun e H' kr => ?_, fun t r e H1 v a1 kr rs1 ed tv ht => ?_⟩
    · exact q1 (by rw [e]) H' kr
    rw [e] at q1 q2
    have lt1 := sd_lt sW e
    have q1 : (tailM W sep (ts.drop a).length r).map (fun x => (t :: x.1, x.2)) = none → _ := q1
    have q2 : ∀ l r', (tailM W sep (ts.drop a).length r).map (fun x => (t :: x.1, x.2)) = some (l, r') → _ := q2
    rw [← ed] at q1 q2 lt1
    refine ⟨(by show 1 ≤ sizeLine; decide), fun D nD => ?_⟩
    have nDH : H D = none := by
      cases hD : H D with
      | none => rfl
      | some o =>
        exfalso
        have n1 : D ≠ p := fun z => by obtain ⟨L, dx, vs, g1, _⟩ := rs1.ex; rw [z, g1] at nD; cases nD
        have n2 : D ≠ PN := fun z => by obtain ⟨ps, g1, _⟩ := kr.1; rw [z, g1] at nD; cases nD
        have := kr.2 D o n2 n1 hD
        rw [nD] at this
        cases this
    refine ⟨fun m σ H' => ∃ a' acc vs m', σ = [some (.ref p), some (.str (S [sep])), some (.ref D)] ∧ KR PN p H H' ∧ RS C RL p H' ts a' n b ∧ H' D = some (.lst vs) ∧ TVs H' acc vs ∧ (∀ t ∈ acc, hgt t ≤ 12) ∧ acc ≠ [] ∧ acc.length ≤ a' ∧ m = ts.length - a' ∧ (ts.drop a').length ≤ m' ∧
      (tailM W sep m' (ts.drop a')).map (fun x => (acc ++ x.1, x.2)) = (tailM W sep (ts.drop a).length (ts.drop a1)).map (fun x => (t :: x.1, x.2)), ⟨_, a1, [t], [v], (ts.drop a).length, rfl, kr.trans (KR.new kr.1 nD), rs1.new nD, upd_same, ?_, fun u hu => by rw [List.mem_singleton.mp hu]; exact ht, by simp, ?_, rfl, by omega, rfl⟩, ?_⟩
    · rw [TVs]
      exact ⟨v, [], rfl, TV.imp (newtup nD) t v tv, by rw [TVs]⟩
    · have := rs1.le
      have := rs.le
      rw [List.length_drop, List.length_drop] at lt1
      show 1 ≤ a1
      omega
    rintro m σ H' ⟨a', acc, vs, m', rfl, kr', rs', hD, tvs, hh, hn, hl, rfl, hm', em⟩
    obtain ⟨L, dx, vs0, g1, g2, g3⟩ := rs'.ex
    refine ⟨_, rfl, p, dx, _, rfl, g1, rF_no (by decide +kernel) (by decide +kernel) (by decide +kernel) (by decide +kernel) _ _ _ _, _, rfl, two_le, fun q nq => ?_⟩
    have rs2 := rs'.new (o := .tup [.str "sign", .str (S [sep])]) nq
    have kr2 : KR PN p H (upd H' q (.tup [.str "sign", .str (S [sep])])) := kr'.trans (KR.new kr'.1 nq)
    have hD2 : upd H' q (.tup [.str "sign", .str (S [sep])]) D = some (.lst vs) := by rw [upd_ne (ne_of_none hD nq)]; exact hD
    refine ⟨p, ts, a', n, b, _, .sign sep, rfl, rs2, sign_dp upd_same, simple_sign hs, fun z => ?_, fun z H2 r2 k2 => ?_⟩
    · refine ⟨_, rfl, iteF ?_⟩
      rw [tail_no z] at em
      have em : some (acc ++ [], ts.drop a') = _ := em
      rw [List.append_nil] at em
      exact ⟨_, rfl, q2 acc _ em.symm _ D vs a' kr2 rs2 rfl nDH hD2 (TVs.imp (newtup nq) acc vs tvs) hh hn (by have := rs'.le; have := rs'.sm; omega)⟩
    · refine ⟨_, rfl, iteT ?_⟩
      have lt : a' < ts.length := (List.getElem?_eq_some_iff.mp z).1
      rw [tail_yes z] at em
      have kr3 : KR PN p H H2 := kr2.trans (KR.of kr2.1 (rs2.nP kr2.1) k2)
      have nDp : D ≠ p := by
        obtain ⟨L, dx, vs, g1, _⟩ := rs2.ex
        exact ne_of hD2 g1 (by intro z; cases z)
      have hD3 : H2 D = some (.lst vs) := k2 _ _ nDp hD2
      have tvs3 : TVs H2 acc vs := TVs.imp (K1p.tup k2 rs2) acc vs (TVs.imp (newtup nq) acc vs tvs)
      have dl : (ts.drop (a' + 1)).length + 1 = (ts.drop a').length := by rw [List.length_drop, List.length_drop]; omega
      obtain ⟨m2, rfl⟩ : ∃ j, m' = j + 1 := ⟨m' - 1, by omega⟩
      rw [many_tail] at em
      refine ⟨fun σ' H3 => ∃ a2 acc vs m', σ' = [some (.ref p), some (.str (S [sep])), some (.ref D)] ∧ KR PN p H H3 ∧ RS C RL p H3 ts a2 n b ∧ H3 D = some (.lst vs) ∧ TVs H3 acc vs ∧ (∀ t ∈ acc, hgt t ≤ 12) ∧ acc ≠ [] ∧ acc.length ≤ a2 ∧ a' < a2 ∧ (ts.drop a2).length ≤ m' ∧
        (tailM W sep m' (ts.drop a2)).map (fun x => (acc ++ x.1, x.2)) = (tailM W sep (ts.drop a).length (ts.drop a1)).map (fun x => (t :: x.1, x.2)), fun σ' H3 hN => ?_, ?_⟩
      · obtain ⟨a2, acc, vs, m', i1, i2, i3, i4, i5, i6, i7, i8, i9, i10, i11⟩ := hN
        exact ⟨ts.length - a2, by have := i3.le; omega, a2, acc, vs, m', i1, i2, i3, i4, i5, i6, i7, i8, rfl, i10, i11⟩
      obtain ⟨L, dx2, vs0, g1, g2, g3⟩ := r2.ex
      refine ⟨_, rfl, .inl ⟨rfl, _, SqL.of hD3⟩, _, rfl, p, dx2, _, rfl, g1, rF_no (by decide +kernel) (by decide +kernel) (by decide +kernel) (by decide +kernel) _ _ _ _, p, ts, a' + 1, rfl, r2, kr3.1, fun e H3 k3 => ?_, fun u r3 e H3 v3 a3 k3 rs3 ed3 tv3 hu => ?_⟩
      · rw [e] at em
        exact q1 em.symm H3 (kr3.trans k3)
      · rw [e] at em
        have em : ((tailM W sep m2 r3).map fun x => (u :: x.1, x.2)).map (fun x => (acc ++ x.1, x.2)) = _ := em
        have lt3 := sd_lt sW e
        have nDP : D ≠ PN := fun z => by obtain ⟨ps, g1, _⟩ := kr3.1; rw [z, g1] at hD3; cases hD3
        have hD4 : H3 D = some (.lst vs) := k3.2 D _ nDP nDp hD3
        have tvs4 : TVs H3 acc vs := TVs.imp (k3.tup r2 kr3.1) acc vs tvs3
        have ll := rs'.le
        have sm := rs'.sm
        have a3le := rs3.le
        have a3gt : a' + 1 < a3 := by rw [← ed3, List.length_drop, List.length_drop] at lt3; omega
        refine ⟨D, _, _, rfl, rfl, hD4, ?_, ?_⟩
        · rw [TVs.len tvs]
          exact Nat.lt_of_le_of_lt (Nat.le_trans hl (Nat.le_trans ll sm)) (by decide)
        · have kf := kr3.trans k3
          have nDL : RL ≠ D := fun z => by
            obtain ⟨d9, e9⟩ := rs.ll
            obtain ⟨L9, dx9, vs9, f1, f2, _⟩ := rs.ex
            rw [f1] at e9
            have e9 := Option.some.inj e9
            have e9 : rF L9 a n b = rF RL a n b := by injection e9
            rw [rF_inj e9, z, nDH] at f2
            cases f2
          refine ⟨a3, acc ++ [u], vs ++ [v3], m2, rfl, ⟨?_, fun c o n1 n2 hc => ?_⟩, rs3.lst nDL hD4, upd_same, TVs.snoc (TV.imp (newlst hD4) u v3 tv3) (TVs.imp (newlst hD4) acc vs tvs4), fun x hx => ?_, by simp, ?_, by omega, ?_, ?_⟩
          · obtain ⟨ps, f1, f2⟩ := kf.1
            exact ⟨ps, by rw [upd_ne nDP.symm]; exact f1, f2⟩
          · rw [upd_ne (fun z => by rw [z, nDH] at hc; cases hc)]
            exact kf.2 c o n1 n2 hc
          · rcases List.mem_append.mp hx with hx | hx
            · exact hh x hx
            · rw [List.mem_singleton.mp hx]
              exact hu
          · rw [List.length_append]
            show acc.length + 1 ≤ a3
            omega
          · rw [← ed3, List.length_drop, List.length_drop] at lt3
            have d1 : (ts.drop (a' + 1)).length = ts.length - (a' + 1) := List.length_drop
            rw [d1] at dl
            rw [List.length_drop]
            omega
          · rw [ed3, ← em, Option.map_map]
            congr 1
            funext x
            show (acc ++ [u] ++ x.1, x.2) = (acc ++ (u :: x.1), x.2)
            rw [List.append_assoc]
            rfl
end
end K3

set_option maxRecDepth 100000
set_option maxHeartbeats 4000000
/-! the reader: arguments, atoms -/
namespace K3
open PySem hiding Tok
open PySem.Spec PyProof.Rows L2 GD K1
open K2 hiding Sp P
section
variable {P : Program} {w : World} {K : PySem.W.Frag} {mg : Str → Option Value} {base : Heap} {C CN PN RL : Addr}
def argsP (ok : Bool) (W : PR) (ts : List Tok) : Option (List Tr × List Tok) := if ok then (match ts with
  | .sign 41 :: r => some ([], r)
  | ts => parens W 44 ts) else none
def spArgs (PN C CN RL : Addr) (W : PR) (n b : Nat) : L2.Sp := fun vs H Q E => ∃ p ts a, vs = [.ref p] ∧ RS C RL p H ts a n b ∧ GxR.TabG H PN ∧
  (argsP (decide (n + 1 ≤ 10)) W (ts.drop a) = none → ∀ H', KR PN p H H' → E (.ref CN) none H') ∧
  (∀ l r, argsP (decide (n + 1 ≤ 10)) W (ts.drop a) = some (l, r) → ∀ H' q vs a', KR PN p H H' → RS C RL p H' ts a' n b → ts.drop a' = r → H' q = some (.tup vs) → TVs H' l vs → (∀ t ∈ l, hgt t ≤ 12) → l.length ≤ 5000 → Q (.ref q) H')
theorem close_dp {H : Hp} {rc : Addr} (h : SqT K H rc [.str "sign", .str ")"]) : Dp K H (.ref rc) (tokD (.sign 41)) := .tup h (.cons (.str _) (.cons (.str _) .nil))
theorem open_dp {H : Hp} {rc : Addr} (h : SqT K H rc [.str "sign", .str "("]) : Dp K H (.ref rc) (tokD (.sign 40)) := .tup h (.cons (.str _) (.cons (.str _) .nil))
theorem args_no {W : PR} {ts : List Tok} {a : Nat} (h : ts[a]? ≠ some (.sign 41)) : argsP true W (ts.drop a) = parens W 44 (ts.drop a) := by
  unfold argsP
  rw [if_pos rfl]
  split
  · rename_i r e
    exact absurd (at_drop e).1 h
  · rfl
theorem args_yes {W : PR} {ts : List Tok} {a : Nat} (h : ts[a]? = some (.sign 41)) : argsP true W (ts.drop a) = some ([], ts.drop (a + 1)) := by
  rw [drop_t h]
  rfl
theorem par_no {W : PR} {sep : Nat} {ts : List Tok} {r : List Tok} {l : List Tr} (e : many W sep (ts.length + 1) ts = some (l, r)) (h : ∀ r', r ≠ .sign 41 :: r') : parens W sep ts = none := by
  unfold parens
  rw [e]
  split
  · rename_i l' r' z
    cases z
    exact absurd rfl (h _)
  · rfl
theorem par_yes {W : PR} {sep : Nat} {ts : List Tok} {r : List Tok} {l : List Tr} (e : many W sep (ts.length + 1) ts = some (l, .sign 41 :: r)) : parens W sep ts = some (l, r) := by
  unfold parens
  rw [e]
  rfl
theorem scArgs : FnScope ["self", "trees"] ["self"] (defScope mArgs) := ⟨rfl, rfl, rfl, by decide +kernel, rfl, by decide +kernel, by decide +kernel⟩
theorem ok_args {k n b : Nat} {W : PR} {f f1 f2 f3 f4 : Addr} {fd fd1 fd2 fd3 fd4 : FuncData} (F : Fun K "arguments" "Reader.arguments" mArgs f fd) (R : TxR K mg C CN) (hk : 40 ≤ k) (bt : mg "tuple" = none)
    (M1 : MO P w K mg base (L2.CX P w) 1 C "enter" ["self"] (spEnter C CN RL) f1 fd1) (M2 : MO P w K mg base CX0 2 C "next_is" ["self", "token"] (spNext K C RL) f2 fd2)
    (M3 : MO P w K mg base (L2.CX P w) k C "wholes" ["self", "between"] (spC (n + 1 ≤ 10) (spWholes PN C CN RL W (n + 1) b)) f3 fd3) (M4 : MO P w K mg base (L2.CX P w) 5 C "leave" ["self"] (spLeave C CN RL) f4 fd4) :
    FnOk P w K mg base (L2.CX P w) (k + 1) f fd ["self"] (spArgs PN C CN RL W n b) := by
  have sc := scArgs
  obtain ⟨rc, gc, sqc⟩ := R.CLOSING
  refine F.okX sc (fun vs H Q E h => ?_) (fun cdv A outer s H vs Q E hr h => ?_)
  · obtain ⟨p, ts, a, rfl, _⟩ := h
    rfl
  · obtain ⟨p, ts, a, rfl, rs, tb, q1, q2⟩ := h
    have hr1 : Room 1 _ := hr.mono (by omega)
    have hr2 : Room 2 _ := hr.mono (by omega)
    have hr5 : Room 5 _ := hr.mono (by omega)
    refine ⟨_, pss_cons (ps_expr (pe_meth0 (pv 0) R.cl M1.mt M1.ok hr1 M1.bi .nil passE))
      (pss_cons (ps_set (i := 1) sc.nd rfl (.inl rfl) (pe_ifExp (pt_val (pe_meth (pv 0) R.cl M2.mt M2.ok hr2 M2.bi .nil pass0 (pa_cons (pe_glob (v := .ref rc) rfl gc rfl) pa_nil))) (pe_lst pa_nil) (pe_meth (pv 0) R.cl M3.mt M3.ok hr M3.bi .nil passE (pa_cons pe_str pa_nil))))
      (pss_cons (ps_expr (pe_meth0 (pv 0) R.cl M4.mt M4.ok hr5 M4.bi .nil passE))
      (pss_one (ps_ret (pe_callTy call_tuple_of (by rfl) bt (by decide +kernel) (pa_cons (pv 1) pa_nil)))))), ?_⟩
    obtain ⟨L, dx, vs, h1, h2, h3⟩ := rs.ex
    refine ⟨_, rfl, p, dx, _, rfl, h1, rF_no (by decide +kernel) (by decide +kernel) (by decide +kernel) (by decide +kernel) _ _ _ _, p, ts, a, n, b, rfl, rs, fun no H1 k1 => ?_, fun ok H1 k1 rs1 => ?_⟩
    · exact q1 (by rw [decide_eq_false (by omega)]; rfl) H1 (KR.of tb (rs.nP tb) k1)
    rw [decide_eq_true ok] at q1 q2
    have kr1 := KR.of tb (rs.nP tb) k1
    obtain ⟨L, dx1, vs1, g1, g2, g3⟩ := rs1.ex
    refine ⟨_, rfl, p, dx1, _, rfl, g1, rF_no (by decide +kernel) (by decide +kernel) (by decide +kernel) (by decide +kernel) _ _ _ _, p, ts, a, n + 1, b, _, .sign 41, rfl, rs1, close_dp (sqc H1), simple_sign (by decide), _, rfl, ?_⟩
    by_cases z : ts[a]? = some (.sign 41)
    · rw [decide_eq_true z]
      refine iteT ⟨Nat.zero_le _, fun D nD => ?_⟩
      have rs2 := rs1.new (o := .lst []) nD
      obtain ⟨L, dx2, vs2, i1, i2, i3⟩ := rs2.ex
      refine ⟨_, rfl, p, dx2, _, rfl, i1, rF_no (by decide +kernel) (by decide +kernel) (by decide +kernel) (by decide +kernel) _ _ _ _, p, ts, a, n, b, rfl, rs2, fun y => absurd z y, fun _ H2 k2 rs3 => ?_⟩
      have nDp : D ≠ p := fun e => by rw [e, g1] at nD; cases nD
      have hD : H2 D = some (.lst []) := k2 D _ nDp upd_same
      refine ⟨_, rfl, D, _, rfl, .inl ⟨SqL.of hD, fun q nq => ?_⟩⟩
      have kr2 : KR PN p H H2 := (kr1.trans (KR.new kr1.1 nD)).trans (KR.of (KR.new (p := p) kr1.1 nD).1 (rs2.nP (KR.new (p := p) kr1.1 nD).1) k2)
      exact q2 [] _ (args_yes z) _ q [] (a + 1) (kr2.trans (KR.new kr2.1 nq)) (rs3.new nq) rfl upd_same (by rw [TVs]) (fun t ht => by cases ht) (by decide)
    · rw [decide_eq_false z]
      rw [args_no z] at q1 q2
      refine iteF ?_
      refine ⟨_, rfl, p, dx1, _, rfl, g1, rF_no (by decide +kernel) (by decide +kernel) (by decide +kernel) (by decide +kernel) _ _ _ _, ok, p, ts, a, 44, rfl, by decide, rs1, kr1.1, fun e H2 kr2 => ?_, fun l r e H2 D vs a2 kr2 rs2 ed nD hD tvs hh hn hl => ?_⟩
      · exact q1 (by unfold parens; rw [e]) H2 (kr1.trans kr2)
      have kr3 := kr1.trans kr2
      obtain ⟨L, dx2, vs2, i1, i2, i3⟩ := rs2.ex
      refine ⟨_, rfl, p, dx2, _, rfl, i1, rF_no (by decide +kernel) (by decide +kernel) (by decide +kernel) (by decide +kernel) _ _ _ _, p, ts, a2, n, b, rfl, rs2, fun y => ?_, fun y H3 k3 rs3 => ?_⟩
      · exact q1 (par_no e fun r' z => y (by rw [← ed] at z; exact (at_drop z).1)) H2 kr3
      have nDp : D ≠ p := ne_of hD i1 (by intro z; cases z)
      have hD3 : H3 D = some (.lst vs) := k3 D _ nDp hD
      refine ⟨_, rfl, D, _, rfl, .inl ⟨SqL.of hD3, fun q nq => ?_⟩⟩
      have kr4 : KR PN p H H3 := kr3.trans (KR.of kr3.1 (rs2.nP kr3.1) k3)
      rw [← ed, drop_t y] at e
      exact q2 l _ (par_yes e) _ q vs (a2 + 1) (kr4.trans (KR.new kr4.1 nq)) (rs3.new nq) rfl upd_same (TVs.imp (newtup nq) l vs (TVs.imp (K1p.tup k3 rs2) l vs tvs)) hh hl
end
end K3

set_option maxRecDepth 100000
set_option maxHeartbeats 4000000
/-! the reader: sequences -/
namespace K3
open PySem hiding Tok
open PySem.Spec PyProof.Rows L2 GD K1
open K2 hiding Sp P
section
variable {P : Program} {w : World} {K : PySem.W.Frag} {mg : Str → Option Value} {base : Heap} {C CN PN RL : Addr}
def seqP (ok : Bool) (W : PR) : PR := fun ts => if ok then (match parens W 59 ts with
  | none => none
  | some (l, r2) => (foldSeq l).map fun t => (t, r2)) else none
theorem fold_cons (t : Tr) {l : List Tr} (h : l ≠ []) : foldSeq (t :: l) = (match foldSeq l with
    | none => none
    | some u => bd (.seq t u)) := by
  cases l with
  | nil => exact absurd rfl h
  | cons u l => rfl
theorem fold_none : ∀ {j : Nat} {l : List Tr}, j < l.length → foldSeq (l.drop j) = none → foldSeq l = none
  | 0, l, _, h => by rw [List.drop_zero] at h; exact h
  | j + 1, [], h, _ => by cases h
  | j + 1, t :: l, hl, h => by
    have hl' : j < l.length := by simpa using hl
    rw [fold_cons t (fun z => by rw [z] at hl'; cases hl'), fold_none hl' h]
theorem TVs.split {H : Hp} {t : Tr} : ∀ {ts : List Tr} {vs : List V}, TVs H (ts ++ [t]) vs → ∃ ws v, vs = ws ++ [v] ∧ TVs H ts ws ∧ TV H t v
  | [], vs, k => by
    have k : TVs H [t] vs := k
    rw [TVs] at k
    obtain ⟨v, r, e, k1, k2⟩ := k
    rw [TVs] at k2
    exact ⟨[], v, by rw [e, k2]; rfl, by rw [TVs], k1⟩
  | u :: ts, vs, k => by
    have k : TVs H (u :: (ts ++ [t])) vs := k
    rw [TVs] at k
    obtain ⟨x, r, e, k1, k2⟩ := k
    obtain ⟨ws, v, e2, k3, k4⟩ := TVs.split k2
    exact ⟨x :: ws, v, by rw [e, e2]; rfl, by rw [TVs]; exact ⟨x, ws, rfl, k1, k3⟩, k4⟩
theorem TVs.get {H : Hp} {x : V} : ∀ {ts : List Tr} {vs : List V} {i : Nat}, TVs H ts vs → vs[i]? = some x → ∃ t, ts[i]? = some t ∧ TV H t x
  | [], vs, i, k, h => by rw [TVs] at k; rw [k] at h; cases h
  | u :: ts, vs, i, k, h => by
    rw [TVs] at k
    obtain ⟨y, r, e, k1, k2⟩ := k
    rw [e] at h
    cases i with
    | zero => cases h; exact ⟨u, rfl, k1⟩
    | succ i =>
      obtain ⟨t, h1, h2⟩ := TVs.get (ts := ts) (vs := r) (i := i) k2 h
      exact ⟨t, h1, h2⟩
theorem cut_init (ws : List V) (v : V) : cutV (ws ++ [v]) none (some (-1)) = ws := by
  have e : ((-1 : Int) + ((ws ++ [v]).length : Nat)).toNat = ws.length := by rw [List.length_append]; show ((-1 : Int) + ((ws.length + 1 : Nat) : Int)).toNat = _; omega
  unfold cutV
  show ((ws ++ [v]).drop 0).take ((if (-1 : Int) < 0 then ((-1 : Int) + ((ws ++ [v]).length : Nat)).toNat else min (-1 : Int).toNat (ws ++ [v]).length) - 0) = ws
  rw [if_pos (by decide), e, Nat.sub_zero, List.drop_zero, List.take_left']
  rfl
theorem scSeq : FnScope ["self", "parts", "tree", "part"] ["self"] (defScope mSeq) := ⟨rfl, rfl, rfl, by decide +kernel, rfl, by decide +kernel, by decide +kernel⟩
theorem ok_seq {k n b : Nat} {W : PR} {f f1 f3 f4 f5 : Addr} {fd fd1 fd3 fd4 fd5 : FuncData} (F : Fun K "sequence" "Reader.sequence" mSeq f fd) (R : TxR K mg C CN) (hk : 40 ≤ k) (bt : mg "reversed" = none)
    (M1 : MO P w K mg base (L2.CX P w) 1 C "enter" ["self"] (spEnter C CN RL) f1 fd1)
    (M3 : MO P w K mg base (L2.CX P w) k C "wholes" ["self", "between"] (spC (n + 1 ≤ 10) (spWholes PN C CN RL W (n + 1) b)) f3 fd3) (M4 : MO P w K mg base (L2.CX P w) 5 C "leave" ["self"] (spLeave C CN RL) f4 fd4)
    (FB : FO P w K mg base (L2.CX P w) 40 "bounded" ["tree"] (spBnd CN) f5 fd5) :
    FnOk P w K mg base (L2.CX P w) (k + 1) f fd ["self"] (spPR PN C CN RL (seqP (decide (n + 1 ≤ 10)) W) n b) := by
  have sc := scSeq
  refine F.okX sc (fun vs H Q E h => ?_) (fun cdv A outer s H vs Q E hr h => ?_)
  · obtain ⟨p, ts, a, rfl, _⟩ := h
    rfl
  · obtain ⟨p, ts, a, rfl, rs, tb, q1, q2⟩ := h
    have hr1 : Room 1 _ := hr.mono (by omega)
    have hr5 : Room 5 _ := hr.mono (by omega)
    have hrB : Room 40 _ := hr.mono hk
    refine ⟨_, pss_cons (ps_expr (pe_meth0 (pv 0) R.cl M1.mt M1.ok hr1 M1.bi .nil passE))
      (pss_cons (ps_set (i := 1) sc.nd rfl (.inl rfl) (pe_meth (pv 0) R.cl M3.mt M3.ok hr M3.bi .nil passE (pa_cons pe_str pa_nil)))
      (pss_cons (ps_expr (pe_meth0 (pv 0) R.cl M4.mt M4.ok hr5 M4.bi .nil passE))
      (pss_cons (ps_set (i := 2) sc.nd rfl (.inl rfl) (pe_ix ix_list (pv 1) (pe_un un_neg pe_int) (fun _ _ => rfl)))
      (pss_cons (ps_for (passes_of rfl) rfl (pi_reversed (by rfl) bt (pa_cons (pe_slice sl_list (pv 1) po_none (po_some (pe_un un_neg pe_int))) pa_nil)) (pg_name (i := 3) sc.nd rfl (.inl rfl))
        (pss_one (ps_set (i := 2) sc.nd rfl (.inl rfl) (pe_call FB.ok hrB (by rfl) FB.m FB.kp FB.b .nil passE (pa_cons (pe_tup (pa_cons pe_str (pa_cons (pv 3) (pa_cons (pv 2) pa_nil)))) pa_nil)))))
      (pss_one (ps_ret (pv 2))))))), ?_⟩
    obtain ⟨L, dx, vs, h1, h2, h3⟩ := rs.ex
    refine ⟨_, rfl, p, dx, _, rfl, h1, rF_no (by decide +kernel) (by decide +kernel) (by decide +kernel) (by decide +kernel) _ _ _ _, p, ts, a, n, b, rfl, rs, fun no H1 k1 => ?_, fun ok H1 k1 rs1 => ?_⟩
    · exact q1 (by rw [decide_eq_false (by omega)]; rfl) H1 (KR.of tb (rs.nP tb) k1)
    rw [decide_eq_true ok] at q1 q2
    have q1 : (match parens W 59 (ts.drop a) with
      | none => none
      | some (l, r2) => (foldSeq l).map fun t => (t, r2)) = none → _ := q1
    have q2 : ∀ t r, (match parens W 59 (ts.drop a) with
      | none => none
      | some (l, r2) => (foldSeq l).map fun t => (t, r2)) = some (t, r) → _ := q2
    have kr1 := KR.of tb (rs.nP tb) k1
    obtain ⟨L, dx1, vs1, g1, g2, g3⟩ := rs1.ex
    refine ⟨_, rfl, p, dx1, _, rfl, g1, rF_no (by decide +kernel) (by decide +kernel) (by decide +kernel) (by decide +kernel) _ _ _ _, ok, p, ts, a, 59, rfl, by decide, rs1, kr1.1, fun e H2 kr2 => ?_, fun l r e H2 D vs a2 kr2 rs2 ed nD hD tvs hh hn hl => ?_⟩
    · exact q1 (by unfold parens; rw [e]) H2 (kr1.trans kr2)
    have kr3 := kr1.trans kr2
    obtain ⟨L, dx2, vs2, i1, i2, i3⟩ := rs2.ex
    refine ⟨_, rfl, p, dx2, _, rfl, i1, rF_no (by decide +kernel) (by decide +kernel) (by decide +kernel) (by decide +kernel) _ _ _ _, p, ts, a2, n, b, rfl, rs2, fun y => ?_, fun y H3 k3 rs3 => ?_⟩
    · exact q1 (by rw [par_no e fun r' z => y (by rw [← ed] at z; exact (at_drop z).1)]) H2 kr3
    have nDp : D ≠ p := ne_of hD i1 (by intro z; cases z)
    have hD3 : H3 D = some (.lst vs) := k3 D _ nDp hD
    have kr4 : KR PN p H H3 := kr3.trans (KR.of kr3.1 (rs2.nP kr3.1) k3)
    rw [← ed, drop_t y] at e
    rw [par_yes e] at q1 q2
    have q1 : (foldSeq l).map (fun t => (t, ts.drop (a2 + 1))) = none → _ := q1
    have q2 : ∀ t r, (foldSeq l).map (fun t => (t, ts.drop (a2 + 1))) = some (t, r) → _ := q2
    have tvs3 : TVs H3 l vs := TVs.imp (K1p.tup k3 rs2) l vs tvs
    obtain ⟨li, lt, rfl⟩ : ∃ li lt, l = li ++ [lt] := ⟨l.dropLast, l.getLast hn, (List.dropLast_concat_getLast hn).symm⟩
    obtain ⟨ws, v, rfl, tw, tl⟩ := TVs.split tvs3
    refine ⟨_, rfl, _, rfl, D, _, _, _, rfl, rfl, SqL.of hD3, atI_last ws v, ?_⟩
    refine ⟨_, rfl, _, rfl, _, rfl, D, _, rfl, SqL.of hD3, fun B nB => ?_⟩
    rw [cut_init]
    have wl := TVs.len tw
    refine ⟨B, ws, rfl, SqL.of upd_same, RT.for_Itv (K := K) (a := B) (xs := ws) (fun i σ H' => ∃ pv u v, σ = [some (.ref p), some (.ref D), some v, pv] ∧ KR PN p H H' ∧ RS C RL p H' ts (a2 + 1) n b ∧ H' B = some (.lst ws) ∧ TVs H' li ws ∧ TV H' u v ∧ hgt u ≤ 12 ∧
        i ≤ li.length ∧ foldSeq ((li ++ [lt]).drop (li.length - i)) = some u)
      ⟨none, lt, v, rfl, kr4.trans (KR.new kr4.1 nB), rs3.new nB, upd_same, TVs.imp (newtup nB) li ws tw, TV.imp (newtup nB) lt v tl, hh lt (by simp), Nat.zero_le _, ?_⟩ (fun i σ H' ⟨_, _, _, _, _, _, h, _⟩ => SqL.of h) ?_ ?_⟩
    · rw [Nat.sub_zero, List.drop_left']
      · rfl
      · rfl
    · rintro i x σ H' hi hx ⟨pv, u, v, rfl, kr', rs', hB, tw', tu, hu, hil, ef⟩
      obtain ⟨t, ht, tt⟩ := TVs.get tw' hx
      have ht' : hgt t ≤ 12 := hh t (List.mem_append_left _ (List.mem_of_getElem? ht))
      have ed2 : (li ++ [lt]).drop (li.length - (i + 1)) = t :: (li ++ [lt]).drop (li.length - i) := by
        have h1 : (li ++ [lt])[li.length - (i + 1)]? = some t := by
          rw [List.getElem?_append_left (by omega), ← ht]
          congr 1
          omega
        obtain ⟨h2, h3⟩ := List.getElem?_eq_some_iff.mp h1
        rw [← h3, List.drop_eq_getElem_cons h2]
        congr 2
        omega
      have ef2 : foldSeq ((li ++ [lt]).drop (li.length - (i + 1))) = bd (.seq t u) := by
        rw [ed2, fold_cons t (fun z => by rw [z] at ef; cases ef), ef]
      unfold bd at ef2
      refine ⟨_, rfl, _, rfl, three_le, fun x' nx => ?_⟩
      have kx : KR PN p H (upd H' x' (.tup [.str "then", x, v])) := kr'.trans (KR.new kr'.1 nx)
      refine ⟨_, .seq t u, rfl, ?_, by rw [hgt]; omega, fun h4 H4 s4 => ?_, fun h4 H4 s4 => ?_⟩
      · rw [TV]
        exact ⟨x', x, v, rfl, upd_same, TV.imp (newtup nx) t x tt, TV.imp (newtup nx) u v tu⟩
      · rw [if_neg (by omega)] at ef2
        refine q1 ?_ H4 (kx.trans (Same.kr s4 kx.1))
        rw [fold_none (by rw [List.length_append]; omega) ef2]
        rfl
      · rw [if_pos h4] at ef2
        have nn : ∀ q xs, H' q = some (.tup xs) → H4 q = some (.tup xs) := fun q xs hq => s4 _ _ (newtup nx q xs hq)
        refine ⟨some x, .seq t u, _, rfl, kx.trans (Same.kr s4 kx.1), (rs'.new nx).keep s4, s4 _ _ (by rw [upd_ne (ne_of_none hB nx)]; exact hB), TVs.imp nn li ws tw', ?_, h4, by omega, ef2⟩
        rw [TV]
        exact ⟨x', x, v, rfl, s4 _ _ upd_same, TV.imp nn t x tt, TV.imp nn u v tu⟩
    · rintro σ H' ⟨pv, u, v, rfl, kr', rs', hB, tw', tu, hu, hil, ef⟩
      rw [wl, Nat.sub_self, List.drop_zero] at ef
      exact ⟨_, rfl, q2 u _ (by rw [ef]; rfl) H' v (a2 + 1) kr' rs' rfl tu hu⟩
end
end K3

set_option maxRecDepth 100000
set_option maxHeartbeats 4000000
/-! the reader: atoms -/
namespace K3
open PySem hiding Tok
open PySem.Spec PyProof.Rows L2 GD K1
open K2 hiding Sp P
section
variable {P : Program} {w : World} {K : PySem.W.Frag} {mg : Str → Option Value} {base : Heap} {C CN PN RL : Addr}
theorem atom_open {ok : Bool} {W : PR} (r : List Tok) : atomP ok W (.sign 40 :: r) = seqP ok W r := rfl
theorem atom_sign {ok : Bool} {W : PR} {c : Nat} (r : List Tok) (h : c ≠ 40) : atomP ok W (.sign c :: r) = none := by
  unfold atomP
  split
  · rename_i e; cases e; exact absurd rfl h
  · rename_i e; cases e
  · rename_i e; cases e
  · rename_i e; cases e
  · rename_i e; cases e
  · rename_i e; cases e
  · rfl
theorem atom_bad {ok : Bool} {W : PR} {l : List Nat} (r : List Tok) (h : nmB l = false) : atomP ok W (.word l :: r) = none := by
  unfold atomP
  split
  · rename_i e; cases e
  · rename_i e; cases e
  · rename_i e; cases e
  · rename_i e; cases e; rw [h]; rfl
  · rename_i e; cases e; rw [h]; rfl
  · rename_i e; cases e; rw [h]; rfl
  · rfl
theorem atom_name {ok : Bool} {W : PR} {l : List Nat} {r : List Tok} (h : nmB l = true) (hr : ∀ r', r ≠ .sign 40 :: r') : atomP ok W (.word l :: r) = some (.name l, r) := by
  unfold atomP
  split
  · rename_i e; cases e
  · rename_i e; cases e
  · rename_i e; cases e
  · rename_i e; cases e; exact absurd rfl (hr _)
  · rename_i e; cases e; exact absurd rfl (hr _)
  · rename_i e; cases e; rw [if_pos h]
  · rename_i h; exact (h _ _ rfl).elim
theorem atom_call {ok : Bool} {W : PR} {l : List Nat} {r : List Tok} (h : nmB l = true) : atomP ok W (.word l :: .sign 40 :: r) = (match argsP ok W r with
    | none => none
    | some (as, r2) => (bd (.call l as)).map fun t => (t, r2)) := by
  have e0 : bd (.call l []) = some (.call l []) := by
    unfold bd
    rw [if_pos (by rw [hgt, hgtL]; omega)]
  unfold atomP
  split
  · rename_i e; cases e
  · rename_i e; cases e
  · rename_i e; cases e
  · rename_i r' e
    cases e
    rw [h]
    cases ok with
    | false => rfl
    | true =>
      show some (Tr.call l [], r') = (bd (.call l [])).map _
      rw [e0]
      rfl
  · rename_i r' hn e
    cases e
    rw [h]
    cases ok with
    | false => rfl
    | true =>
      have : argsP true W r = parens W 44 r := by
        unfold argsP
        rw [if_pos rfl]
        split
        · rename_i r2
          exact (hn _ rfl).elim
        · rfl
      rw [this]
      rfl
  · rename_i hn e
    cases e
    exact (hn _ rfl).elim
  · rename_i h; exact (h _ _ rfl).elim
theorem scAtom : FnScope ["self", "kind", "content"] ["self"] (defScope mAtom) := ⟨rfl, rfl, rfl, by decide +kernel, rfl, by decide +kernel, by decide +kernel⟩
theorem in_ns : inV (.str "number") [.str "number", .str "string"] = true := by decide +kernel
theorem in_ss : inV (.str "string") [.str "number", .str "string"] = true := by decide +kernel
theorem in_gs : inV (.str "sign") [.str "number", .str "string"] = false := by decide +kernel
theorem in_ws : inV (.str "word") [.str "number", .str "string"] = false := by decide +kernel
theorem ok_atom {k n b : Nat} {W : PR} {f f1 f2 f3 f4 f5 f6 : Addr} {fd fd1 fd2 fd3 fd4 fd5 fd6 : FuncData} (F : Fun K "atom" "Reader.atom" mAtom f fd) (R : TxR K mg C CN) (hk : 40 ≤ k)
    (M1 : MO P w K mg base CX0 3 C "accept" ["self", "token"] (spAccept K C RL) f1 fd1) (M2 : MO P w K mg base (L2.CX P w) 4 C "take" ["self"] (spTake C CN RL) f2 fd2)
    (M3 : MO P w K mg base (L2.CX P w) k C "sequence" ["self"] (spPR PN C CN RL (seqP (decide (n + 1 ≤ 10)) W) n b) f3 fd3) (M4 : MO P w K mg base (L2.CX P w) k C "arguments" ["self"] (spArgs PN C CN RL W n b) f4 fd4)
    (FB : FO P w K mg base (L2.CX P w) 40 "bounded" ["tree"] (spBnd CN) f5 fd5) (G2 : FO P w K mg base CX0 1 "is_name" ["text"] (spName PN) f6 fd6) :
    FnOk P w K mg base (L2.CX P w) (k + 1) f fd ["self"] (spPR PN C CN RL (atomP (decide (n + 1 ≤ 10)) W) n b) := by
  have sc := scAtom
  obtain ⟨ro, go, sqo⟩ := R.OPENING
  refine F.okX sc (fun vs H Q E h => ?_) (fun cdv A outer s H vs Q E hr h => ?_)
  · obtain ⟨p, ts, a, rfl, _⟩ := h
    rfl
  · obtain ⟨p, ts, a, rfl, rs, tb, q1, q2⟩ := h
    have hr1 : Room 1 _ := hr.mono (by omega)
    have hr3 : Room 3 _ := hr.mono (by omega)
    have hr4 : Room 4 _ := hr.mono (by omega)
    have hrB : Room 40 _ := hr.mono hk
    refine ⟨_, pss_cons (ps_if (pt_val (pe_meth (pv 0) R.cl M1.mt M1.ok hr3 M1.bi .nil pass0 (pa_cons (pe_glob (v := .ref ro) rfl go rfl) pa_nil))) (pss_one (ps_ret (pe_meth0 (pv 0) R.cl M3.mt M3.ok hr M3.bi .nil passE))) pss_nil)
      (pss_cons (ps_asg (pe_meth0 (pv 0) R.cl M2.mt M2.ok hr4 M2.bi .nil passE) (pg_tup rfl (pgs_cons (pg_name (i := 1) sc.nd rfl (.inl rfl)) (pgs_cons (pg_name (i := 2) sc.nd rfl (.inl rfl)) pgs_nil))))
      (pss_cons (ps_if (pt_cmpR op_in_seq (pv 1) (pe_tup (pa_cons pe_str (pa_cons pe_str pa_nil))) rfl) (pss_one (ps_ret (pe_tup (pa_cons (pv 1) (pa_cons (pv 2) pa_nil))))) pss_nil)
      (pss_cons (ps_if (PW.pt (pw_or (pt_cmpR op_ne (pv 1) pe_str (nomark _)) (pw_or1 (pt_not (pt_val (pe_call G2.ok hr1 (by rfl) G2.m G2.kp G2.b .nil pass0 (pa_cons (pv 2) pa_nil)))))))
        (pss_one (ps_raise rfl (takes_of rfl rfl rfl rfl) (pmk_own PySem.F.excBase_ValueError R.xN R.gN R.kN (raises_own R.bN R.tN) rfl))) pss_nil)
      (pss_cons (ps_if (pt_val (pe_meth (pv 0) R.cl M1.mt M1.ok hr3 M1.bi .nil pass0 (pa_cons (pe_glob (v := .ref ro) rfl go rfl) pa_nil)))
        (pss_one (ps_ret (pe_call FB.ok hrB (by rfl) FB.m FB.kp FB.b .nil passE (pa_cons (pe_tup (pa_cons pe_str (pa_cons (pv 2) (pa_cons (pe_meth0 (pv 0) R.cl M4.mt M4.ok hr M4.bi .nil passE) pa_nil)))) pa_nil)))) pss_nil)
      (pss_one (ps_ret (pe_tup (pa_cons pe_str (pa_cons (pv 2) pa_nil))))))))), ?_⟩
    obtain ⟨L, dx, vs, h1, h2, h3⟩ := rs.ex
    refine ⟨_, rfl, p, dx, _, rfl, h1, rF_no (by decide +kernel) (by decide +kernel) (by decide +kernel) (by decide +kernel) _ _ _ _, p, ts, a, n, b, _, .sign 40, rfl, rs, open_dp (sqo H), simple_sign (by decide), fun z => ?_, fun z H2 r2 k2 => ?_⟩
    rotate_left
    · -- a sequence in parentheses
      have kr2 := KR.of tb (rs.nP tb) k2
      rw [drop_t z, atom_open] at q1 q2
      refine ⟨_, rfl, iteT ?_⟩
      obtain ⟨L, dx2, vs, i1, _, _⟩ := r2.ex
      refine ⟨_, rfl, p, dx2, _, rfl, i1, rF_no (by decide +kernel) (by decide +kernel) (by decide +kernel) (by decide +kernel) _ _ _ _, p, ts, a + 1, rfl, r2, kr2.1, fun e H3 k3 => ?_, fun u r3 e H3 v3 a3 k3 rs3 ed3 tv3 hu => ?_⟩
      · exact q1 e H3 (kr2.trans k3)
      · exact q2 u r3 e H3 v3 a3 (kr2.trans k3) rs3 ed3 tv3 hu
    refine ⟨_, rfl, iteF ?_⟩
    refine ⟨_, rfl, p, dx, _, rfl, h1, rF_no (by decide +kernel) (by decide +kernel) (by decide +kernel) (by decide +kernel) _ _ _ _, p, ts, a, n, b, rfl, rs, fun e => ?_, fun t e H1 q rs1 k1 hq => ?_⟩
    · refine q1 ?_ H (KR.refl tb)
      rw [List.drop_eq_nil_of_le (List.getElem?_eq_none_iff.mp e)]
      rfl
    have kr1 := KR.of tb (rs.nP tb) k1
    have np1 := rs1.nP kr1.1
    rw [drop_t e] at q1 q2
    cases t with
    | num m =>
      refine ⟨q, _, rfl, .inl (.inl hq), rfl, _, _, rfl, _, _, rfl, rfl, ?_⟩
      refine ⟨_, rfl, two_le, fun u nu => ⟨u, _, rfl, .inr (SqT.of upd_same), rfl, rfl, _, rfl, ?_⟩⟩
      refine iteT ⟨_, rfl, _, rfl, two_le, fun x nx => ?_⟩
      have k2 : KR PN p H (upd H1 u (.tup [.str "number", .str "string"])) := (kr1.trans (KR.new kr1.1 nu))
      refine q2 (.num m) _ rfl _ _ (a + 1) (k2.trans (KR.new k2.1 nx)) ((rs1.new nu).new nx) rfl ?_ (by rw [hgt]; omega)
      rw [TV]
      exact ⟨x, rfl, upd_same⟩
    | str m =>
      refine ⟨q, _, rfl, .inl (.inl hq), rfl, _, _, rfl, _, _, rfl, rfl, ?_⟩
      refine ⟨_, rfl, two_le, fun u nu => ⟨u, _, rfl, .inr (SqT.of upd_same), rfl, rfl, _, rfl, ?_⟩⟩
      refine iteT ⟨_, rfl, _, rfl, two_le, fun x nx => ?_⟩
      have k2 : KR PN p H (upd H1 u (.tup [.str "number", .str "string"])) := (kr1.trans (KR.new kr1.1 nu))
      refine q2 (.str m) _ rfl _ _ (a + 1) (k2.trans (KR.new k2.1 nx)) ((rs1.new nu).new nx) rfl ?_ (by rw [hgt]; omega)
      rw [TV]
      exact ⟨x, rfl, upd_same⟩
    | sign m =>
      refine ⟨q, _, rfl, .inl (.inl hq), rfl, _, _, rfl, _, _, rfl, rfl, ?_⟩
      refine ⟨_, rfl, two_le, fun u nu => ⟨u, _, rfl, .inr (SqT.of upd_same), rfl, rfl, _, rfl, ?_⟩⟩
      refine iteF ⟨_, rfl, rfl, _, rfl, ?_⟩
      exact q1 (atom_sign _ (fun y => z (by rw [e, y]))) _ (kr1.trans (KR.new kr1.1 nu))
    | word l =>
      refine ⟨q, _, rfl, .inl (.inl hq), rfl, _, _, rfl, _, _, rfl, rfl, ?_⟩
      refine ⟨_, rfl, two_le, fun u nu => ⟨u, _, rfl, .inr (SqT.of upd_same), rfl, rfl, _, rfl, ?_⟩⟩
      have k2 : KR PN p H (upd H1 u (.tup [.str "number", .str "string"])) := (kr1.trans (KR.new kr1.1 nu))
      have rs2 := rs1.new (o := .tup [.str "number", .str "string"]) nu
      refine iteF ⟨_, rfl, rfl, _, rfl, ?_⟩
      refine ⟨_, rfl, _, rfl, by rw [S_len]; exact rs.wd l (List.mem_of_getElem? e), k2.1, fun H2 k3 => ?_⟩
      have k3' : KR PN p (upd H1 u (.tup [.str "number", .str "string"])) H2 := ⟨k3.1, fun b o n _ h => k3.2 b o n h⟩
      have np := rs2.nP k2.1
      have rs3 : RS C RL p H2 ts (a + 1) n b := by
        obtain ⟨L, dx, vs, h1, h2, h3⟩ := rs2.ex
        exact ⟨⟨L, dx, vs, k3.2 _ _ np.symm h1, k3.2 _ _ (fun z => by obtain ⟨ps, h, _⟩ := k2.1; rw [z, h] at h2; cases h2) h2, h3.kp k2.1 k3⟩, rs2.le, rs2.sm, rs2.sh, rs2.wd, let ⟨d, e⟩ := rs2.ll; ⟨d, k3.2 _ _ np.symm e⟩⟩
      have kr3 := k2.trans k3'
      refine ⟨_, rfl, ?_⟩
      rw [nameB_eq]
      cases hn : nmB l with
      | false => exact iteT (q1 (atom_bad _ hn) H2 kr3)
      | true =>
        refine iteF ?_
        obtain ⟨L, dx3, vs, i1, _, _⟩ := rs3.ex
        refine ⟨_, rfl, p, dx3, _, rfl, i1, rF_no (by decide +kernel) (by decide +kernel) (by decide +kernel) (by decide +kernel) _ _ _ _, p, ts, a + 1, n, b, _, .sign 40, rfl, rs3, open_dp (sqo H2), simple_sign (by decide), fun y => ?_, fun y H4 r4 k4 => ?_⟩
        · refine ⟨_, rfl, iteF ⟨_, rfl, two_le, fun x nx => ?_⟩⟩
          refine q2 (.name l) _ (atom_name hn (fun r' e9 => y (at_drop e9).1)) _ _ (a + 1) (kr3.trans (KR.new kr3.1 nx)) (rs3.new nx) rfl ?_ (by rw [hgt]; omega)
          rw [TV]
          exact ⟨x, rfl, upd_same⟩
        · refine ⟨_, rfl, iteT ?_⟩
          have kr4 := kr3.trans (KR.of kr3.1 (rs3.nP kr3.1) k4)
          rw [drop_t y, atom_call hn] at q1 q2
          obtain ⟨L, dx4, vs, j1, _, _⟩ := r4.ex
          refine ⟨_, rfl, _, rfl, p, dx4, _, rfl, j1, rF_no (by decide +kernel) (by decide +kernel) (by decide +kernel) (by decide +kernel) _ _ _ _, p, ts, a + 1 + 1, rfl, r4, kr4.1, fun e5 H5 k5 => ?_, fun as r5 e5 H5 q5 vs5 a5 k5 rs5 ed5 hq5 tv5 hu5 hl5 => ?_⟩
          · exact q1 (by rw [e5]) H5 (kr4.trans k5)
          · rw [e5] at q1 q2
            have q1 : (bd (.call l as)).map (fun t => (t, r5)) = none → _ := q1
            have q2 : ∀ t r, (bd (.call l as)).map (fun t => (t, r5)) = some (t, r) → _ := q2
            refine ⟨three_le, fun x nx => ?_⟩
            have kx : KR PN p H (upd H5 x (.tup [.str "call", .str (S l), .ref q5])) := (kr4.trans k5).trans (KR.new k5.1 nx)
            unfold bd at q1 q2
            refine ⟨_, .call l as, rfl, ?_, by rw [hgt]; have := hgtL_le hu5; omega, fun hh H6 s6 => ?_, fun hh H6 s6 => ?_⟩
            · rw [TV]
              exact ⟨x, q5, vs5, rfl, upd_same, newtup nx _ _ hq5, TVs.imp (newtup nx) as vs5 tv5, hl5⟩
            · exact q1 (by rw [if_neg (by omega)]; rfl) H6 (kx.trans (Same.kr s6 kx.1))
            · refine q2 (.call l as) r5 (by rw [if_pos hh]; rfl) H6 _ a5 (kx.trans (Same.kr s6 kx.1)) ((rs5.new nx).keep s6) ed5 ?_ hh
              have nn : ∀ q xs, H5 q = some (.tup xs) → H6 q = some (.tup xs) := fun q xs hq => s6 _ _ (newtup nx q xs hq)
              rw [TV]
              exact ⟨x, q5, vs5, rfl, s6 _ _ upd_same, nn _ _ hq5, TVs.imp nn as vs5 tv5, hl5⟩
end
end K3

set_option maxRecDepth 100000
set_option maxHeartbeats 4000000
/-! the reader: all of it, by induction on the fuel of the mirror -/
namespace K3
open PySem hiding Tok
open PySem.Spec PyProof.Rows L2 GD K1
open K2 hiding Sp P
section
variable {P : Program} {w : World} {K : PySem.W.Frag} {mg : Str → Option Value} {base : Heap} {C CN PN RL : Addr}
/-- a method of the reader as the top has written it -/
structure MF (K : PySem.W.Frag) (C : Addr) (m qual : Str) (st : Stmt) (ps : List Str) (f : Addr) (fd : FuncData) : Prop where
  mt : Meth K C m f
  bi : Binds K fd ps []
  fn : Fun K m qual st f fd
theorem MF.mo {CX : CXT} {k : Nat} {m qual : Str} {st : Stmt} {ps : List Str} {f : Addr} {fd : FuncData} {sp : L2.Sp} (M : MF K C m qual st ps f fd) (F : FnOk P w K mg base CX k f fd ps sp) {j : Nat} (h : k ≤ j) : MO P w K mg base CX j C m ps sp f fd := ⟨M.mt, M.bi, F.mono h⟩
theorem rd_rec {f1 f2 f3 f4 f5 f6 f7 f8 f9 f10 f11 f12 f13 f14 f15 f16 f17 f18 f19 f20 fb fn : Addr} {fd1 fd2 fd3 fd4 fd5 fd6 fd7 fd8 fd9 fd10 fd11 fd12 fd13 fd14 fd15 fd16 fd17 fd18 fd19 fd20 fdb fdn : FuncData}
    (T : Txt K mg) (R : TxR K mg C CN) (bt : mg "tuple" = none) (br : mg "reversed" = none)
    (A1 : MF K C "at_end" "Reader.at_end" mAtEnd ["self"] f1 fd1) (A2 : MF K C "next_is" "Reader.next_is" mNext ["self", "token"] f2 fd2) (A3 : MF K C "accept" "Reader.accept" mAccept ["self", "token"] f3 fd3)
    (A4 : MF K C "expect" "Reader.expect" mExpect ["self", "token"] f4 fd4) (A5 : MF K C "take" "Reader.take" mTake ["self"] f5 fd5) (A6 : MF K C "accept_sign" "Reader.accept_sign" mAccSign ["self", "signs"] f6 fd6)
    (A7 : MF K C "whole" "Reader.whole" mWhole ["self"] f7 fd7) (A8 : MF K C "choice" "Reader.choice" mChoice ["self"] f8 fd8) (A9 : MF K C "setting" "Reader.setting" mSetting ["self"] f9 fd9) (A10 : MF K C "branch" "Reader.branch" mBranch ["self"] f10 fd10)
    (A11 : MF K C "target" "Reader.target" mTarget ["self"] f11 fd11) (A12 : MF K C "compared" "Reader.compared" mCompared ["self"] f12 fd12) (A13 : MF K C "added" "Reader.added" mAdded ["self"] f13 fd13) (A14 : MF K C "multiplied" "Reader.multiplied" mMult ["self"] f14 fd14)
    (A15 : MF K C "atom" "Reader.atom" mAtom ["self"] f15 fd15) (A16 : MF K C "arguments" "Reader.arguments" mArgs ["self"] f16 fd16) (A17 : MF K C "sequence" "Reader.sequence" mSeq ["self"] f17 fd17) (A18 : MF K C "wholes" "Reader.wholes" mWholes ["self", "between"] f18 fd18)
    (A19 : MF K C "enter" "Reader.enter" mEnter ["self"] f19 fd19) (A20 : MF K C "leave" "Reader.leave" mLeave ["self"] f20 fd20)
    (FB : FO P w K mg base (L2.CX P w) 40 "bounded" ["tree"] (spBnd CN) fb fdb) (GN : FO P w K mg base CX0 1 "is_name" ["text"] (spName PN) fn fdn) :
    ∀ fuel n b, n ≤ 10 → b ≤ 11 → (10 - n) + (11 - b) < fuel → FnOk P w K mg base (L2.CX P w) (40 + 7 * (11 - n) + 3 * (12 - b)) f7 fd7 ["self"] (spPR PN C CN RL (K2.P fuel n b) n b)
  | 0, n, b, _, _, h => by omega
  | fuel + 1, n, b, hn, hb, hf => by
    have rc := rd_rec T R bt br A1 A2 A3 A4 A5 A6 A7 A8 A9 A10 A11 A12 A13 A14 A15 A16 A17 A18 A19 A20 FB GN fuel
    have O1 := A1.mo (P := P) (w := w) (base := base) (ok_atEnd (RL := RL) A1.fn T R) (Nat.le_refl 1)
    have O2 := A2.mo (ok_next A2.fn T R O1) (Nat.le_refl 2)
    have O3 := A3.mo (ok_accept A3.fn R O2) (Nat.le_refl 3)
    have O4 := A4.mo (ok_expect A4.fn R O3) (Nat.le_refl 4)
    have O5 := A5.mo (ok_take A5.fn R O1) (Nat.le_refl 4)
    have O6 := A6.mo (ok_accSign A6.fn R O3) (Nat.le_refl 4)
    have O19 := A19.mo (P := P) (w := w) (base := base) (ok_enter (RL := RL) A19.fn R) (Nat.le_refl 1)
    have O20 := A20.mo (ok_leave A20.fn R O4) (Nat.le_refl 5)
    have W1 := A7.mo (fn_cond (c := b + 1 < 12) fun h => rc n (b + 1) hn (by omega) (by omega)) (Nat.le_refl _)
    have O10 := A10.mo (ok_branch A10.fn R W1) (Nat.le_refl _)
    have W2 : n + 1 ≤ 10 → MO P w K mg base (L2.CX P w) (40 + 7 * (11 - (n + 1)) + 3 * (12 - b)) C "whole" ["self"] (spPR PN C CN RL (K2.P fuel (n + 1) b) (n + 1) b) f7 fd7 := fun h => A7.mo (rc (n + 1) b h hb (by omega)) (Nat.le_refl _)
    have O18 := A18.mo (fn_cond (c := n + 1 ≤ 10) fun h => ok_wholes A18.fn R (sd_P _ _ _) (by omega) O3 (W2 h)) (Nat.le_refl _)
    have O17 := A17.mo (ok_seq A17.fn R (by omega) br O19 O18 O20 FB) (Nat.le_refl _)
    have O16 := A16.mo (ok_args A16.fn R (by omega) bt O19 O2 O18 O20) (Nat.le_refl _)
    have O15 := A15.mo (ok_atom A15.fn R (by omega) O3 O5 O17 O16 FB GN) (Nat.le_refl _)
    have sA : Sd (atomP (decide (n + 1 ≤ 10)) (K2.P fuel (n + 1) b)) := sd_atom (sd_P _ _ _)
    have O14 := A14.mo (ok_mult A14.fn R sA (by omega) O3 O15 FB) (Nat.le_refl _)
    have O13 := A13.mo (ok_added A13.fn R sA (by omega) O6 O14 FB) (Nat.le_refl _)
    have O12 := A12.mo (ok_comp A12.fn R (by omega) O6 O13 FB) (Nat.le_refl _)
    have O11 := A11.mo (ok_target (n := n) (b := b) A11.fn R O5 GN) (Nat.le_refl 5)
    have O9 := A9.mo (ok_setting A9.fn R (by omega) O11 O4 O10 FB) (j := 40 + 7 * (11 - (n + 1)) + 3 * (12 - b) + 1 + 1 + 1 + 1 + 1 + 1) (by omega)
    have O8 := A8.mo (ok_choice A8.fn R (by omega) O4 O10 FB) (j := 40 + 7 * (11 - (n + 1)) + 3 * (12 - b) + 1 + 1 + 1 + 1 + 1 + 1) (by omega)
    have O7 := ok_whole A7.fn R (by omega) O3 O8 O9 O12
    rw [K2.P]
    exact O7.mono (by omega)
end
end K3

set_option maxRecDepth 100000
set_option maxHeartbeats 4000000
/-! parse -/
namespace K3
open PySem hiding Tok
open PySem.Spec PyProof.Rows L2 GD K1
open K2 hiding Sp P
abbrev sParse : Stmt := topS 30
section
variable {P : Program} {w : World} {K : PySem.W.Frag} {mg : Str → Option Value} {base : Heap} {C CN PN RL : Addr}
theorem rF_new (L : Addr) : putF "branches" (.int 0) (putF "nested" (.int 0) (putF "at" (.int 0) (putF "tokens" (.ref L) []))) = rF L 0 0 0 := by
  have e1 : putF "tokens" (.ref L) [] = [(("tokens" : Str), V.ref L)] := rfl
  have e2 : putF "at" (.int 0) [(("tokens" : Str), V.ref L)] = [(("tokens" : Str), V.ref L), ("at", .int 0)] := put_past (by decide +kernel)
  have e3 : putF "nested" (.int 0) [(("tokens" : Str), V.ref L), ("at", .int 0)] = [(("tokens" : Str), V.ref L), ("at", .int 0), ("nested", .int 0)] := (put_past (by decide +kernel)).trans (congrArg _ (put_past (by decide +kernel)))
  have e4 : putF "branches" (.int 0) [(("tokens" : Str), V.ref L), ("at", .int 0), ("nested", .int 0)] = [(("tokens" : Str), V.ref L), ("at", .int 0), ("nested", .int 0), ("branches", .int 0)] := (put_past (by decide +kernel)).trans (congrArg _ ((put_past (by decide +kernel)).trans (congrArg _ (put_past (by decide +kernel)))))
  rw [e1, e2, e3, e4]
  rfl
def spInitR (C : Addr) : L2.Sp := fun vs H Q _ => ∃ p dx D ws, vs = [.ref p, .ref D] ∧ H p = some (.ins C dx []) ∧ H D = some (.lst ws) ∧
  ∀ H' L, H' p = some (.ins C dx (rF L 0 0 0)) → H' L = some (.lst ws) → K1p p H H' → Q .non H'
theorem scInit : FnScope ["self", "tokens"] ["self", "tokens"] (defScope mInit) := ⟨rfl, rfl, rfl, by decide +kernel, rfl, by decide +kernel, by decide +kernel⟩
theorem ok_init {f : Addr} {fd : FuncData} (F : Fun K "__init__" "Reader.__init__" mInit f fd) (T : Txt K mg) (R : TxR K mg C CN) : FnOk P w K mg base CX0 1 f fd ["self", "tokens"] (spInitR C) := by
  have sc := scInit
  refine F.ok sc (fun vs H Q E h => ?_) (fun cdv A outer s H vs Q E hr h => ?_)
  · obtain ⟨p, dx, D, ws, rfl, _⟩ := h
    rfl
  · obtain ⟨p, dx, D, ws, rfl, hp, hD, q⟩ := h
    refine ⟨_, pss_cons (ps_fld (pv 0) (pe_callTy call_list_of (by rfl) T.blist (by decide +kernel) (pa_cons (pv 1) pa_nil)) rfl) (pss_cons (ps_fld (pv 0) pe_int rfl) (pss_cons (ps_fld (pv 0) pe_int rfl) (pss_one (ps_fld (pv 0) pe_int rfl)))), ?_⟩
    refine ⟨_, rfl, D, _, rfl, .inl (SqL.of hD), fun L nL => ?_⟩
    have h1 : upd H L (.lst ws) p = some (.ins C dx []) := by rw [upd_ne (ne_of_none hp nL)]; exact hp
    refine ⟨_, rfl, p, C, dx, _, rfl, h1, R.cl, R.nT, (by show 0 < 1000; decide), ?_⟩
    refine ⟨_, rfl, p, C, dx, _, rfl, upd_same, R.cl, R.nA, (by show 1 < 1000; decide), ?_⟩
    refine ⟨_, rfl, p, C, dx, _, rfl, upd_same, R.cl, R.nN, (by show 2 < 1000; decide), ?_⟩
    refine ⟨_, rfl, p, C, dx, _, rfl, upd_same, R.cl, R.nB, (by show 3 < 1000; decide), ?_⟩
    have nLp : L ≠ p := fun z => by rw [z, hp] at nL; cases nL
    refine q _ L ?_ ?_ ((K1p.new nL).trans (K1p.put.trans (K1p.put.trans (K1p.put.trans K1p.put))))
    · rw [upd_same]
      exact congrArg (fun q => some (HO.ins C dx q)) (rF_new L)
    · rw [upd_ne nLp, upd_ne nLp, upd_ne nLp, upd_ne nLp, upd_same]
theorem fn_ex {α : Type} {CX : CXT} {k : Nat} {f : Addr} {fd : FuncData} {ps : List Str} {sp : α → L2.Sp} (F : ∀ x, FnOk P w K mg base CX k f fd ps (sp x)) : FnOk P w K mg base CX k f fd ps (fun vs H Q E => ∃ x, sp x vs H Q E) :=
  ⟨fun vs H Q E h => let ⟨x, h⟩ := h; (F x).len vs H Q E h, fun A outer s H args us vs Q E hr e b v h => let ⟨x, h⟩ := h; (F x).run A outer s H args us vs Q E hr e b v h⟩
/-- tokens that lie in a list at D -/
structure TokAt (H : Hp) (D : Addr) (vs : List V) (ts : List Tok) : Prop where
  at_ : H D = some (.lst vs)
  tl : TokL H vs ts
  sm : ts.length ≤ 5000
  sh : ∀ t ∈ ts, SeqAt.shaped (tokD t) = true
  wd : ∀ l, Tok.word l ∈ ts → l.length ≤ 5000
def spParse (PN : Addr) : L2.Sp := fun vs H Q _ => ∃ D ws ts, vs = [.ref D] ∧ TokAt H D ws ts ∧ GxR.TabG H PN ∧
  (parseM ts = none → ∀ H', Kp PN H H' → Q .non H') ∧ (∀ t, parseM ts = some t → ∀ v H', Kp PN H H' → TV H' t v → hgt t ≤ 12 → Q v H')
theorem scParse : FnScope ["tokens", "reader", "tree"] ["tokens"] (defScope sParse) := ⟨rfl, rfl, rfl, by decide +kernel, rfl, by decide +kernel, by decide +kernel⟩
theorem ok_parse {f f0 f1 f7 : Addr} {fd fd0 fd1 fd7 : FuncData} (F : Fun K "parse" "parse" sParse f fd) (R : TxR K mg C CN) (M : Mk K C f0) (b0 : Binds K fd0 ["self", "tokens"] []) (O0 : FnOk P w K mg base CX0 1 f0 fd0 ["self", "tokens"] (spInitR C))
    (A1 : Meth K C "at_end" f1) (B1 : Binds K fd1 ["self"] []) (O1 : ∀ RL, FnOk P w K mg base CX0 1 f1 fd1 ["self"] (spAtEnd C RL))
    (A7 : Meth K C "whole" f7) (B7 : Binds K fd7 ["self"] []) (O7 : ∀ RL, FnOk P w K mg base (L2.CX P w) 153 f7 fd7 ["self"] (spPR PN C CN RL (K2.P 30 0 0) 0 0)) :
    FnOk P w K mg base CX0 154 f fd ["tokens"] (spParse PN) := by
  have sc := scParse
  have E1 := fn_ex O1
  have E7 := fn_ex O7
  refine F.ok sc (fun vs H Q E h => ?_) (fun cdv A outer s H vs Q E hr h => ?_)
  · obtain ⟨D, ws, ts, rfl, _⟩ := h
    rfl
  · obtain ⟨D, ws, ts, rfl, ta, tb, q1, q2⟩ := h
    have hr2 : Room 2 _ := hr.mono (by decide)
    have hr1 : Room 1 _ := hr.mono (by decide)
    refine ⟨_, pss_cons (ps_set (i := 1) sc.nd rfl (.inl rfl) (pe_make M O0 hr2 rfl R.gC b0 .nil pass0 (pa_cons (pv 0) pa_nil)))
      (pss_cons (ps_try_only (tb := fun W => tAsg (tMeth C "whole" _ [] (fun cls d H => ∀ σ, W cls d σ H) (tVar 1) tNil) (gName 2)) (ts := fun _ _ _ => tRet (tC .non)) (Wout := fun _ _ _ _ => False) rfl rfl ⟨rfl, by decide, Or.inl R.gN⟩ takes0
          (fun W pn xe tk _ => pss_one (ps_set (i := 2) sc.nd rfl (.inl rfl) (pe_meth0 (E := fun cls d H => ∀ σ, W cls d σ H) (pv 1) R.cl A7 E7 hr B7 .nil (passes_call tk fun cls d σ H h => h σ))))
          (fun _ _ _ _ _ _ _ => pss_one (ps_ret pe_non)))
      (pss_one (ps_ret (pe_ifExp (pt_val (pe_meth0 (pv 1) R.cl A1 E1 hr1 B1 .nil pass0)) (pv 2) pe_non)))), ?_⟩
    refine ⟨_, rfl, fun x dx nx ndx nex => ?_⟩
    have old : ∀ b o, H b = some o → upd (upd H dx (.own x)) x (.ins C dx []) b = some o := fun b o hb => by rw [upd_ne (ne_of_none hb nx), upd_ne (ne_of_none hb ndx)]; exact hb
    refine ⟨x, dx, D, ws, rfl, upd_same, old _ _ ta.at_, fun H2 L g1 g2 k2 => ⟨rfl, ?_⟩⟩
    have old2 : ∀ b o, H b = some o → H2 b = some o := fun b o hb => k2 b o (ne_of_none hb nx) (old b o hb)
    have tb2 : GxR.TabG H2 PN := by
      obtain ⟨ps, e, r⟩ := tb
      exact ⟨ps, old2 _ _ e, r⟩
    have rs : RS C L x H2 ts 0 0 0 := ⟨⟨L, dx, ws, g1, g2, ta.tl.imp fun q t hq => old2 _ _ hq⟩, Nat.zero_le _, ta.sm, ta.sh, ta.wd, dx, g1⟩
    have kp : ∀ H', KR PN x H2 H' → Kp PN H H' := fun H' k => ⟨k.1, fun b o n hb => k.2 b o n (ne_of_none hb nx) (old2 b o hb)⟩
    refine ⟨_, rfl, x, dx, _, rfl, g1, rF_no (by decide +kernel) (by decide +kernel) (by decide +kernel) (by decide +kernel) _ _ _ _, L, x, ts, 0, rfl, rs, tb2, fun e H' kr => ?_, fun t r e H' v a' kr rs' ed tv ht => ?_⟩
    · have e : K2.P 30 0 0 ts = none := e
      intro σ
      refine ⟨true, R.eN, fun _ a0 _ => ?_, fun q => Bool.noConfusion q⟩
      exact q1 (by unfold parseM; rw [e]) H' (kp H' kr)
    · have e : K2.P 30 0 0 ts = some (t, r) := e
      obtain ⟨L', dx', vs', j1, _, _⟩ := rs'.ex
      refine ⟨_, rfl, x, dx', _, rfl, j1, rF_no (by decide +kernel) (by decide +kernel) (by decide +kernel) (by decide +kernel) _ _ _ _, L, x, ts, a', 0, 0, rfl, rs', _, rfl, ?_⟩
      by_cases z : a' = ts.length
      · rw [decide_eq_true z]
        have er : r = [] := by rw [← ed, z]; exact List.drop_length
        rw [er] at e
        exact iteT ⟨_, rfl, q2 t (by unfold parseM; rw [e]) v H' (kp H' kr) tv ht⟩
      · rw [decide_eq_false z]
        refine iteF (q1 ?_ H' (kp H' kr))
        unfold parseM
        rw [e]
        cases r with
        | nil => exact absurd (by have := congrArg List.length ed; rw [List.length_drop] at this; have l := rs'.le; have this : ts.length - a' = 0 := this; omega) z
        | cons _ _ => rfl
end
end K3

set_option maxRecDepth 100000
set_option maxHeartbeats 4000000
/-! max(a list of ints, default=an int) -/
namespace K3
open PySem hiding Tok
open PySem.Spec PyProof.Rows L2 GD K1
def mx (d : Int) : List Int → Int
  | [] => d
  | n :: ns => ns.foldl max n
section
variable {X : Cx}
theorem reads_ints {h : Heap} : ∀ {ns : List Int} {us : List Value}, Vals (ns.map V.int) us → ReadsAll h us (ns.map PyData.int) []
  | [], us, r => by
    cases r
    exact .nil
  | n :: ns, us, r => by
    have r : Vals (V.int n :: ns.map V.int) us := r
    cases r with
    | cons h1 h2 =>
      obtain ⟨t, rfl⟩ := h1
      exact .cons (as := []) (bs := []) (.int n t) (reads_ints h2)
theorem depth_ints : ∀ ns : List Int, PyData.depthAll (ns.map PyData.int) ≤ 1
  | [] => by simp [PyData.depthAll]
  | n :: ns => by
    have := depth_ints ns
    rw [List.map_cons]
    simp only [PyData.depthAll, PyData.depth]
    omega
theorem cr_maxDef (hc : X.calm = true) (hu : X.A.units + 64 < cLine) : CallRK X (.builtin "max") [Str.ofString "default"] (fun xs zs H Q => ∃ (a : Addr) (ns : List Int) (d : Int), xs = [.ref a] ∧ zs = [.int d] ∧ SqL X.K H a (ns.map V.int) ∧ Q (.int (mx d ns)) H) := by
  intro pins s σ H xs zs us ws Q I r r' h
  obtain ⟨a, ns, d, rfl, rfl, hs, q⟩ := h
  obtain ⟨its, rv, hl, _⟩ := I.list hs
  rw [Vals.ref1 r]
  obtain ⟨t, rfl⟩ : ∃ t, ws = [.int d t] := by
    cases r' with
    | cons h1 h2 =>
      cases h2
      obtain ⟨t, rfl⟩ := h1
      exact ⟨t, rfl⟩
  refine PySem.W.max_list_default (I.ok.hd hc) hl.isList (reads_ints rv) ⟨?_, ?_⟩ ?_ ?_ ?_
  · intro x hx y hy
    obtain ⟨i, _, rfl⟩ := List.mem_map.mp hx
    obtain ⟨j, _, rfl⟩ := List.mem_map.mp hy
    rfl
  · intro x hx
    obtain ⟨i, _, rfl⟩ := List.mem_map.mp hx
    exact fun z => by cases z
  · have := depth_ints ns
    omega
  · intro e h' tk hk
    have e : ns = [] := List.map_eq_nil_iff.mp e
    subst e
    exact ⟨.int _, H, I.kept hk, ⟨_, rfl⟩, q⟩
  · intro y ys i v h' tk bs e hv hr hk
    cases ns with
    | nil => cases e
    | cons n ns =>
      have e : PyData.int n :: ns.map PyData.int = y :: ys := e
      obtain ⟨rfl, rfl⟩ := List.cons.inj e
      rw [PySem.W.maxD_ints] at hr
      cases hr
      exact ⟨.int _, H, I.kept hk, ⟨_, rfl⟩, q⟩
end
end K3

set_option maxRecDepth 100000
set_option maxHeartbeats 4000000
/-! the parts of a tree -/
namespace K3
open PySem hiding Tok
open PySem.Spec PyProof.Rows L2 GD K1
open K2 hiding Sp P
abbrev sParts : Stmt := topS 31
section
variable {P : Program} {w : World} {K : PySem.W.Frag} {mg : Str → Option Value} {base : Heap}
def kids : Tr → List Tr
  | .call _ as => as
  | .ite a b c => [a, b, c]
  | .set _ t => [t]
  | .seq a b => [a, b]
  | .op _ a b => [a, b]
  | _ => []
def spParts : L2.Sp := fun vs H Q _ => ∃ v t, vs = [v] ∧ TV H t v ∧ ∀ H' q ws, Same H H' → H' q = some (.tup ws) → TVs H' (kids t) ws → (kids t).length ≤ 5000 → Q (.ref q) H'
theorem scParts : FnScope ["tree", "kind"] ["tree"] (defScope sParts) := ⟨rfl, rfl, rfl, by decide +kernel, rfl, by decide +kernel, by decide +kernel⟩
theorem TVs.one {H : Hp} {t : Tr} {v : V} (h : TV H t v) : TVs H [t] [v] := by rw [TVs]; exact ⟨v, [], rfl, h, by rw [TVs]⟩
theorem TVs.two {H : Hp} {t u : Tr} {v x : V} (h : TV H t v) (k : TV H u x) : TVs H [t, u] [v, x] := by rw [TVs]; exact ⟨v, [x], rfl, h, TVs.one k⟩
theorem TVs.three {H : Hp} {t u z : Tr} {v x y : V} (h : TV H t v) (k : TV H u x) (j : TV H z y) : TVs H [t, u, z] [v, x, y] := by rw [TVs]; exact ⟨v, [x, y], rfl, h, TVs.two k j⟩
theorem kinds_op : ∀ c ∈ [42, 43, 45, 60, 61], inV (.str (S [c])) [.str "number", .str "string", .str "name"] = false ∧ S [c] ≠ ("call" : Str) ∧ S [c] ≠ ("set" : Str) ∧ S [c] ≠ ("if" : Str) ∧ S [c] ≠ ("then" : Str) := by decide +kernel
theorem ok_parts {f : Addr} {fd : FuncData} (F : Fun K "parts_of" "parts_of" sParts f fd) : FnOk P w K mg base CX0 1 f fd ["tree"] spParts := by
  have sc := scParts
  refine F.ok sc (fun vs H Q E h => ?_) (fun cdv A outer s H vs Q E hr h => ?_)
  · obtain ⟨v, t, rfl, _⟩ := h
    rfl
  · obtain ⟨v, t, rfl, tv, q⟩ := h
    refine ⟨_, pss_cons (ps_set (i := 1) sc.nd rfl (.inl rfl) (pe_ix ix_tup (pv 0) pe_int (fun _ _ => rfl)))
      (pss_cons (ps_if (pt_cmpR op_in_seq (pv 1) (pe_tup (pa_cons pe_str (pa_cons pe_str (pa_cons pe_str pa_nil)))) rfl) (pss_one (ps_ret (pe_tup pa_nil))) pss_nil)
      (pss_cons (ps_if (pt_cmpR op_eq (pv 1) pe_str (nomark _)) (pss_one (ps_ret (pe_ix ix_tup (pv 0) pe_int (fun _ _ => rfl)))) pss_nil)
      (pss_cons (ps_if (pt_cmpR op_eq (pv 1) pe_str (nomark _)) (pss_one (ps_ret (pe_slice sl_tup (pv 0) (po_some pe_int) po_none))) pss_nil)
      (pss_one (ps_ret (pe_slice sl_tup (pv 0) (po_some pe_int) po_none)))))), ?_⟩
    have new : ∀ {H' : Hp} {x : Addr} {o : HO}, Same H H' → H' x = none → Same H (upd H' x o) := fun {H' x o} s n b u e => by rw [upd_ne (ne_of_none (s b u e) n)]; exact s b u e
    have nn : ∀ {H' : Hp}, Same H H' → ∀ q xs, H q = some (.tup xs) → H' q = some (.tup xs) := fun s q xs e => s q _ e
    cases t with
    | num m =>
      rw [TV] at tv
      obtain ⟨p, rfl, hp⟩ := tv
      refine ⟨_, rfl, p, _, _, _, rfl, rfl, SqT.of hp, atI_nat (j := 0) rfl, _, rfl, three_le, fun u nu => ⟨u, _, rfl, .inr (SqT.of upd_same), rfl, rfl, _, rfl, ?_⟩⟩
      have s1 := new (o := .tup [.str "number", .str "string", .str "name"]) (Same.refl H) nu
      refine iteT ⟨Nat.zero_le _, fun x nx => q _ x [] (new s1 nx) upd_same (by show TVs _ [] []; rw [TVs]) (by show 0 ≤ 5000; decide)⟩
    | str m =>
      rw [TV] at tv
      obtain ⟨p, rfl, hp⟩ := tv
      refine ⟨_, rfl, p, _, _, _, rfl, rfl, SqT.of hp, atI_nat (j := 0) rfl, _, rfl, three_le, fun u nu => ⟨u, _, rfl, .inr (SqT.of upd_same), rfl, rfl, _, rfl, ?_⟩⟩
      have s1 := new (o := .tup [.str "number", .str "string", .str "name"]) (Same.refl H) nu
      refine iteT ⟨Nat.zero_le _, fun x nx => q _ x [] (new s1 nx) upd_same (by show TVs _ [] []; rw [TVs]) (by show 0 ≤ 5000; decide)⟩
    | name m =>
      rw [TV] at tv
      obtain ⟨p, rfl, hp⟩ := tv
      refine ⟨_, rfl, p, _, _, _, rfl, rfl, SqT.of hp, atI_nat (j := 0) rfl, _, rfl, three_le, fun u nu => ⟨u, _, rfl, .inr (SqT.of upd_same), rfl, rfl, _, rfl, ?_⟩⟩
      have s1 := new (o := .tup [.str "number", .str "string", .str "name"]) (Same.refl H) nu
      refine iteT ⟨Nat.zero_le _, fun x nx => q _ x [] (new s1 nx) upd_same (by show TVs _ [] []; rw [TVs]) (by show 0 ≤ 5000; decide)⟩
    | call g as =>
      rw [TV] at tv
      obtain ⟨p, ar, ws, rfl, hp, ha, tvs, hl⟩ := tv
      refine ⟨_, rfl, p, _, _, _, rfl, rfl, SqT.of hp, atI_nat (j := 0) rfl, _, rfl, three_le, fun u nu => ⟨u, _, rfl, .inr (SqT.of upd_same), rfl, rfl, _, rfl, ?_⟩⟩
      have s1 := new (o := .tup [.str "number", .str "string", .str "name"]) (Same.refl H) nu
      refine iteF ⟨_, rfl, rfl, _, rfl, ?_⟩
      refine iteT ⟨_, rfl, p, _, _, _, rfl, rfl, SqT.of (s1 _ _ hp), atI_nat (j := 2) rfl, ?_⟩
      exact q _ ar ws s1 (s1 _ _ ha) (TVs.imp (nn s1) as ws tvs) hl
    | set y t =>
      rw [TV] at tv
      obtain ⟨p, a, rfl, hp, ta⟩ := tv
      refine ⟨_, rfl, p, _, _, _, rfl, rfl, SqT.of hp, atI_nat (j := 0) rfl, _, rfl, three_le, fun u nu => ⟨u, _, rfl, .inr (SqT.of upd_same), rfl, rfl, _, rfl, ?_⟩⟩
      have s1 := new (o := .tup [.str "number", .str "string", .str "name"]) (Same.refl H) nu
      refine iteF ⟨_, rfl, rfl, _, rfl, ?_⟩
      refine iteF ⟨_, rfl, rfl, _, rfl, ?_⟩
      refine iteT ?_
      refine ⟨_, rfl, _, rfl, p, _, rfl, SqT.of (s1 _ _ hp), (fun z => Nat.noConfusion (show (2 : Nat) = 0 from z.1)), fun x nx => ?_⟩
      exact q _ x [a] (new s1 nx) upd_same (TVs.one (TV.imp (nn (new s1 nx)) t a ta)) (by show 1 ≤ 5000; decide)
    | ite x1 y1 z1 =>
      rw [TV] at tv
      obtain ⟨p, a, b, c, rfl, hp, ta, tb, tc⟩ := tv
      refine ⟨_, rfl, p, _, _, _, rfl, rfl, SqT.of hp, atI_nat (j := 0) rfl, _, rfl, three_le, fun u nu => ⟨u, _, rfl, .inr (SqT.of upd_same), rfl, rfl, _, rfl, ?_⟩⟩
      have s1 := new (o := .tup [.str "number", .str "string", .str "name"]) (Same.refl H) nu
      refine iteF ⟨_, rfl, rfl, _, rfl, ?_⟩
      refine iteF ⟨_, rfl, rfl, _, rfl, ?_⟩
      refine iteF ?_
      refine ⟨_, rfl, _, rfl, p, _, rfl, SqT.of (s1 _ _ hp), (fun z => Nat.noConfusion (show (1 : Nat) = 0 from z.1)), fun x nx => ?_⟩
      exact q _ x [a, b, c] (new s1 nx) upd_same (TVs.three (TV.imp (nn (new s1 nx)) x1 a ta) (TV.imp (nn (new s1 nx)) y1 b tb) (TV.imp (nn (new s1 nx)) z1 c tc)) (by show 3 ≤ 5000; decide)
    | seq x1 y1 =>
      rw [TV] at tv
      obtain ⟨p, a, b, rfl, hp, ta, tb⟩ := tv
      refine ⟨_, rfl, p, _, _, _, rfl, rfl, SqT.of hp, atI_nat (j := 0) rfl, _, rfl, three_le, fun u nu => ⟨u, _, rfl, .inr (SqT.of upd_same), rfl, rfl, _, rfl, ?_⟩⟩
      have s1 := new (o := .tup [.str "number", .str "string", .str "name"]) (Same.refl H) nu
      refine iteF ⟨_, rfl, rfl, _, rfl, ?_⟩
      refine iteF ⟨_, rfl, rfl, _, rfl, ?_⟩
      refine iteF ?_
      refine ⟨_, rfl, _, rfl, p, _, rfl, SqT.of (s1 _ _ hp), (fun z => Nat.noConfusion (show (1 : Nat) = 0 from z.1)), fun x nx => ?_⟩
      exact q _ x [a, b] (new s1 nx) upd_same (TVs.two (TV.imp (nn (new s1 nx)) x1 a ta) (TV.imp (nn (new s1 nx)) y1 b tb)) (by show 2 ≤ 5000; decide)
    | op c x1 y1 =>
      rw [TV] at tv
      obtain ⟨p, a, b, rfl, hp, ta, tb, hk⟩ := tv
      simp only [List.mem_cons, List.not_mem_nil, or_false] at hk
      rcases hk with rfl | rfl | rfl | rfl | rfl
      · refine ⟨_, rfl, p, _, _, _, rfl, rfl, SqT.of hp, atI_nat (j := 0) rfl, _, rfl, three_le, fun u nu => ⟨u, _, rfl, .inr (SqT.of upd_same), rfl, rfl, _, rfl, ?_⟩⟩
        have s1 := new (o := .tup [.str "number", .str "string", .str "name"]) (Same.refl H) nu
        refine iteF ⟨_, rfl, rfl, _, rfl, ?_⟩
        refine iteF ⟨_, rfl, rfl, _, rfl, ?_⟩
        refine iteF ?_
        refine ⟨_, rfl, _, rfl, p, _, rfl, SqT.of (s1 _ _ hp), (fun z => Nat.noConfusion (show (1 : Nat) = 0 from z.1)), fun x nx => ?_⟩
        exact q _ x [a, b] (new s1 nx) upd_same (TVs.two (TV.imp (nn (new s1 nx)) x1 a ta) (TV.imp (nn (new s1 nx)) y1 b tb)) (by show 2 ≤ 5000; decide)
      · refine ⟨_, rfl, p, _, _, _, rfl, rfl, SqT.of hp, atI_nat (j := 0) rfl, _, rfl, three_le, fun u nu => ⟨u, _, rfl, .inr (SqT.of upd_same), rfl, rfl, _, rfl, ?_⟩⟩
        have s1 := new (o := .tup [.str "number", .str "string", .str "name"]) (Same.refl H) nu
        refine iteF ⟨_, rfl, rfl, _, rfl, ?_⟩
        refine iteF ⟨_, rfl, rfl, _, rfl, ?_⟩
        refine iteF ?_
        refine ⟨_, rfl, _, rfl, p, _, rfl, SqT.of (s1 _ _ hp), (fun z => Nat.noConfusion (show (1 : Nat) = 0 from z.1)), fun x nx => ?_⟩
        exact q _ x [a, b] (new s1 nx) upd_same (TVs.two (TV.imp (nn (new s1 nx)) x1 a ta) (TV.imp (nn (new s1 nx)) y1 b tb)) (by show 2 ≤ 5000; decide)
      · refine ⟨_, rfl, p, _, _, _, rfl, rfl, SqT.of hp, atI_nat (j := 0) rfl, _, rfl, three_le, fun u nu => ⟨u, _, rfl, .inr (SqT.of upd_same), rfl, rfl, _, rfl, ?_⟩⟩
        have s1 := new (o := .tup [.str "number", .str "string", .str "name"]) (Same.refl H) nu
        refine iteF ⟨_, rfl, rfl, _, rfl, ?_⟩
        refine iteF ⟨_, rfl, rfl, _, rfl, ?_⟩
        refine iteF ?_
        refine ⟨_, rfl, _, rfl, p, _, rfl, SqT.of (s1 _ _ hp), (fun z => Nat.noConfusion (show (1 : Nat) = 0 from z.1)), fun x nx => ?_⟩
        exact q _ x [a, b] (new s1 nx) upd_same (TVs.two (TV.imp (nn (new s1 nx)) x1 a ta) (TV.imp (nn (new s1 nx)) y1 b tb)) (by show 2 ≤ 5000; decide)
      · refine ⟨_, rfl, p, _, _, _, rfl, rfl, SqT.of hp, atI_nat (j := 0) rfl, _, rfl, three_le, fun u nu => ⟨u, _, rfl, .inr (SqT.of upd_same), rfl, rfl, _, rfl, ?_⟩⟩
        have s1 := new (o := .tup [.str "number", .str "string", .str "name"]) (Same.refl H) nu
        refine iteF ⟨_, rfl, rfl, _, rfl, ?_⟩
        refine iteF ⟨_, rfl, rfl, _, rfl, ?_⟩
        refine iteF ?_
        refine ⟨_, rfl, _, rfl, p, _, rfl, SqT.of (s1 _ _ hp), (fun z => Nat.noConfusion (show (1 : Nat) = 0 from z.1)), fun x nx => ?_⟩
        exact q _ x [a, b] (new s1 nx) upd_same (TVs.two (TV.imp (nn (new s1 nx)) x1 a ta) (TV.imp (nn (new s1 nx)) y1 b tb)) (by show 2 ≤ 5000; decide)
      · refine ⟨_, rfl, p, _, _, _, rfl, rfl, SqT.of hp, atI_nat (j := 0) rfl, _, rfl, three_le, fun u nu => ⟨u, _, rfl, .inr (SqT.of upd_same), rfl, rfl, _, rfl, ?_⟩⟩
        have s1 := new (o := .tup [.str "number", .str "string", .str "name"]) (Same.refl H) nu
        refine iteF ⟨_, rfl, rfl, _, rfl, ?_⟩
        refine iteF ⟨_, rfl, rfl, _, rfl, ?_⟩
        refine iteF ?_
        refine ⟨_, rfl, _, rfl, p, _, rfl, SqT.of (s1 _ _ hp), (fun z => Nat.noConfusion (show (1 : Nat) = 0 from z.1)), fun x nx => ?_⟩
        exact q _ x [a, b] (new s1 nx) upd_same (TVs.two (TV.imp (nn (new s1 nx)) x1 a ta) (TV.imp (nn (new s1 nx)) y1 b tb)) (by show 2 ≤ 5000; decide)
end
end K3

set_option maxRecDepth 100000
set_option maxHeartbeats 4000000
/-! height, bounded -/
namespace K3
open PySem hiding Tok
open PySem.Spec PyProof.Rows L2 GD K1
open K2 hiding Sp P
abbrev sBounded : Stmt := topS 29
abbrev sHeight : Stmt := topS 32
section
variable {P : Program} {w : World} {K : PySem.W.Frag} {mg : Str → Option Value} {base : Heap} {C CN : Addr}
def hI (t : Tr) : Int := (hgt t : Nat)
theorem fold_max : ∀ (ns : List Int) (n : Int), 0 ≤ n → ns.foldl max n = max n (ns.foldl max 0) 
  | [], n, h => by show n = max n 0; omega
  | k :: ns, n, h => by
    have e1 := fold_max ns (max n k) (by omega)
    have e2 := fold_max ns (max 0 k) (by omega)
    show ns.foldl max (max n k) = max n (ns.foldl max (max 0 k))
    rw [e1, e2]
    omega
theorem mx_hgtL : ∀ as : List Tr, mx 0 (as.map hI) = (hgtL as : Nat)
  | [] => rfl
  | t :: as => by
    rw [List.map_cons, hgtL]
    have ih := mx_hgtL as
    cases as with
    | nil =>
      show hI t = _
      unfold hI
      rw [hgtL]
      omega
    | cons u as =>
      have e : mx 0 (hI t :: hI u :: as.map hI) = max (hI t) (mx 0 (hI u :: as.map hI)) := by
        show (hI u :: as.map hI).foldl max (hI t) = max (hI t) ((as.map hI).foldl max (hI u))
        rw [List.foldl_cons, fold_max (as.map hI) (max (hI t) (hI u)) (by unfold hI; omega), fold_max (as.map hI) (hI u) (by unfold hI; omega)]
        omega
      rw [List.map_cons] at ih ⊢
      rw [e, ih]
      unfold hI
      omega
theorem hgt_kids (t : Tr) : (1 : Int) + mx 0 ((kids t).map hI) = hI t := by
  have two : ∀ a b : Tr, mx 0 [hI a, hI b] = ((max (hgt a) (hgt b) : Nat) : Int) := fun a b => by show max (hI a) (hI b) = _; unfold hI; omega
  cases t with
  | num n => unfold hI; rw [hgt]; rfl
  | str n => unfold hI; rw [hgt]; rfl
  | name n => unfold hI; rw [hgt]; rfl
  | call f as =>
    show (1 : Int) + mx 0 (as.map hI) = _
    rw [mx_hgtL]
    unfold hI
    rw [hgt]
    omega
  | ite a b c =>
    show (1 : Int) + max (max (hI a) (hI b)) (hI c) = _
    unfold hI
    rw [hgt]
    omega
  | set x t =>
    show (1 : Int) + hI t = _
    unfold hI
    rw [hgt]
    omega
  | seq a b => show (1 : Int) + mx 0 [hI a, hI b] = _; rw [two]; unfold hI; rw [hgt]; omega
  | op c a b => show (1 : Int) + mx 0 [hI a, hI b] = _; rw [two]; unfold hI; rw [hgt]; omega
theorem kid_low {t u : Tr} (h : u ∈ kids t) : hgt u < hgt t := by
  have inL : ∀ {as : List Tr}, u ∈ as → hgt u ≤ hgtL as := fun {as} => by
    induction as with
    | nil => exact fun h => by cases h
    | cons a as ih =>
      intro h
      rw [hgtL]
      rcases List.mem_cons.mp h with rfl | h
      · omega
      · have := ih h; omega
  cases t with
  | num n => cases h
  | str n => cases h
  | name n => cases h
  | call f as => rw [hgt]; have := inL (show u ∈ as from h); omega
  | ite a b c =>
    rw [hgt]
    have h : u ∈ [a, b, c] := h
    simp only [List.mem_cons, List.not_mem_nil, or_false] at h
    rcases h with rfl | rfl | rfl <;> omega
  | set x t =>
    rw [hgt]
    have h : u ∈ [t] := h
    simp only [List.mem_cons, List.not_mem_nil, or_false] at h
    rw [h]; omega
  | seq a b =>
    rw [hgt]
    have h : u ∈ [a, b] := h
    simp only [List.mem_cons, List.not_mem_nil, or_false] at h
    rcases h with rfl | rfl <;> omega
  | op c a b =>
    rw [hgt]
    have h : u ∈ [a, b] := h
    simp only [List.mem_cons, List.not_mem_nil, or_false] at h
    rcases h with rfl | rfl <;> omega
def spHt (h : Nat) : L2.Sp := fun vs H Q _ => ∃ v t, vs = [v] ∧ TV H t v ∧ hgt t ≤ h ∧ ∀ H', Same H H' → Q (.int (hI t)) H'
theorem scHeight : FnScope ["tree", "part"] ["tree"] (defScope sHeight) := ⟨rfl, rfl, rfl, by decide +kernel, rfl, by decide +kernel, by decide +kernel⟩
theorem ok_height {f f1 : Addr} {fd fd1 : FuncData} (F : Fun K "height" "height" sHeight f fd) (hm : mg "max" = none) (m : mg "height" = some (.ref f)) (kp : PySem.W.keepIn K (.ref f) = true) (bi : Binds K fd ["tree"] [])
    (FP : FO P w K mg base CX0 1 "parts_of" ["tree"] spParts f1 fd1) : ∀ h, FnOk P w K mg base CX0 (2 + h) f fd ["tree"] (spHt h)
  | 0 => ⟨fun vs H Q E h => by obtain ⟨v, t, rfl, _⟩ := h; rfl, fun A outer s H args us vs Q E hr e b v h => by
      obtain ⟨v, t, rfl, _, ht, _⟩ := h
      exfalso
      have : 1 ≤ hgt t := by cases t <;> (rw [hgt]; omega)
      omega⟩
  | h + 1 => by
    have FH := ok_height F hm m kp bi FP h
    have sc := scHeight
    show FnOk P w K mg base CX0 (2 + h + 1) f fd ["tree"] (spHt (h + 1))
    refine F.ok sc (fun vs H Q E h => ?_) (fun cdv A outer s H vs Q E hr h => ?_)
    · obtain ⟨v, t, rfl, _⟩ := h
      rfl
    · obtain ⟨v, t, rfl, tv, ht, q⟩ := h
      have hr1 : Room 1 _ := hr.mono (by omega)
      refine ⟨_, pss_one (ps_ret (pe_op op_add pe_int (pe_callBK (cr_maxDef rfl hr.units) (by rfl) hm (by decide +kernel)
        (pa_cons (pe_lc (own := [("part", 1)]) (g := gName 1) (tt := tYes) rfl sc.nd (pi_tup (pe_call FP.ok hr1 (by rfl) FP.m FP.kp FP.b .nil pass0 (pa_cons (pv 0) pa_nil))) (blkOk_by (N := ["tree", "part"]) (sc := defScope sHeight) (by decide +kernel))
          (fun _ _ _ _ _ => pg_name (i := 1) sc.nd rfl (Or.inl rfl)) (fun _ _ _ _ _ => pts_nil) (fun _ _ _ _ _ => pe_call FH hr (by rfl) m kp bi .nil pass0 (pa_cons (pv 1) pa_nil))) pa_nil)
        (pk_cons pe_int pk_nil)))), ?_⟩
      refine ⟨_, rfl, v, t, rfl, tv, fun H1 qa ws s1 hq tvs hl => ?_⟩
      have wl := TVs.len tvs
      refine ⟨qa, rfl, ⟨_, SqT.of hq⟩, fun D nD => ?_⟩
      refine lc_tup (K := K) (a := qa) (xs := ws) (fun i H' => Same H1 H' ∧ H' D = some (.lst (((kids t).take i).map fun u => .int (hI u)))) ⟨Same.lst (Same.refl H1) nD, upd_same⟩ (fun i H' _ p => SqT.of (p.1 _ _ hq)) (fun i x H' hx p => ?_) (fun H' p => ?_)
      · obtain ⟨u, hu, tu⟩ := TVs.get tvs hx
        have ul := kid_low (List.mem_of_getElem? hu)
        refine ⟨rfl, ?_⟩
        refine ⟨_, rfl, x, u, rfl, TV.imp (fun q xs e => p.1 q _ e) u x tu, by omega, fun H3 s3 => ?_⟩
        refine ⟨_, s3 _ _ p.2, ?_, fun b o e => ?_, ?_⟩
        · rw [List.length_map, List.length_take]
          exact Nat.lt_of_le_of_lt (Nat.le_trans (Nat.min_le_right _ _) hl) (by decide)
        · rw [upd_ne (ne_of_none e nD)]
          exact s3 b o (p.1 b o e)
        · rw [upd_same, List.take_add_one, hu, List.map_append]
          rfl
      · rw [wl, List.take_length] at p
        have e : (kids t).map (fun u => V.int (hI u)) = ((kids t).map hI).map V.int := by rw [List.map_map]; rfl
        refine ⟨D, (kids t).map hI, 0, rfl, rfl, SqL.of (by rw [← e]; exact p.2), ?_⟩
        refine ⟨_, _, rfl, rfl, ?_⟩
        have := q H' (fun b o h => p.1 b o (s1 b o h))
        rw [← hgt_kids] at this
        exact this
/-! ### bounded -/
theorem scBnd : FnScope ["tree"] ["tree"] (defScope sBounded) := ⟨rfl, rfl, rfl, by decide +kernel, rfl, by decide +kernel, by decide +kernel⟩
theorem ok_bounded {f f1 : Addr} {fd fd1 : FuncData} (F : Fun K "bounded" "bounded" sBounded f fd) (R : TxR K mg C CN) (FH : FO P w K mg base CX0 15 "height" ["tree"] (spHt 13) f1 fd1) :
    FnOk P w K mg base (L2.CX P w) 40 f fd ["tree"] (spBnd CN) := by
  have sc := scBnd
  obtain ⟨t12, g12⟩ := R.HEIGHT
  refine (F.okX (k := 15) sc (fun vs H Q E h => ?_) (fun cdv A outer s H vs Q E hr h => ?_)).mono (by decide)
  · obtain ⟨v, t, rfl, _⟩ := h
    rfl
  · obtain ⟨v, t, rfl, tv, ht, q1, q2⟩ := h
    refine ⟨_, pss_cons (ps_if (pt_cmpR op_gt (pe_call FH.ok hr (by rfl) FH.m FH.kp FH.b .nil pass0 (pa_cons (pv 0) pa_nil)) (pe_gint rfl g12) (nomark _))
        (pss_one (ps_raise rfl (takes_of rfl rfl rfl rfl) (pmk_own PySem.F.excBase_ValueError R.xN R.gN R.kN (raises_own R.bN R.tN) rfl))) pss_nil)
      (pss_one (ps_ret (pv 0))), ?_⟩
    refine ⟨_, rfl, v, t, rfl, tv, ht, fun H1 s1 => ?_⟩
    refine ⟨_, _, rfl, rfl, _, rfl, ite2 (fun h => ?_) (fun h => ?_)⟩
    · exact q1 (by have := of_decide_eq_true h; unfold hI at this; omega) H1 s1
    · have : ¬ ((12 : Int) < hI t) := fun z => h (decide_eq_true z)
      exact ⟨_, rfl, q2 (by unfold hI at this; omega) H1 s1⟩
end
end K3

set_option maxRecDepth 100000
set_option maxHeartbeats 4000000
/-! trees as data -/
namespace K3
open PySem hiding Tok
open PySem.Spec PyProof.Rows L2 GD K1
open K2 hiding Sp P
mutual
def treeD : Tr → PyData
  | .num n => .tuple [.str "number", .int (n : Nat)]
  | .str l => .tuple [.str "string", .str (S l)]
  | .name l => .tuple [.str "name", .str (S l)]
  | .call f as => .tuple [.str "call", .str (S f), .tuple (treeDs as)]
  | .ite a b c => .tuple [.str "if", treeD a, treeD b, treeD c]
  | .set x t => .tuple [.str "set", .str (S x), treeD t]
  | .seq a b => .tuple [.str "then", treeD a, treeD b]
  | .op c a b => .tuple [.str (S [c]), treeD a, treeD b]
def treeDs : List Tr → List PyData
  | [] => []
  | t :: ts => treeD t :: treeDs ts
end
mutual
theorem TV.dp {K : PySem.W.Frag} {H : Hp} : ∀ (t : Tr) (v : V), TV H t v → Dp K H v (treeD t)
  | .num n, v, h => by
    rw [TV] at h
    obtain ⟨q, rfl, h⟩ := h
    rw [treeD]
    exact .tup (SqT.of h) (.cons (.str _) (.cons (.int _) .nil))
  | .str n, v, h => by
    rw [TV] at h
    obtain ⟨q, rfl, h⟩ := h
    rw [treeD]
    exact .tup (SqT.of h) (.cons (.str _) (.cons (.str _) .nil))
  | .name n, v, h => by
    rw [TV] at h
    obtain ⟨q, rfl, h⟩ := h
    rw [treeD]
    exact .tup (SqT.of h) (.cons (.str _) (.cons (.str _) .nil))
  | .call f as, v, h => by
    rw [TV] at h
    obtain ⟨q, a, vs, rfl, h1, h2, h3, _⟩ := h
    rw [treeD]
    exact .tup (SqT.of h1) (.cons (.str _) (.cons (.str _) (.cons (.tup (SqT.of h2) (TVs.dp as vs h3)) .nil)))
  | .ite x y z, v, h => by
    rw [TV] at h
    obtain ⟨q, a, b, c, rfl, h1, h2, h3, h4⟩ := h
    rw [treeD]
    exact .tup (SqT.of h1) (.cons (.str _) (.cons (TV.dp x a h2) (.cons (TV.dp y b h3) (.cons (TV.dp z c h4) .nil))))
  | .set x t, v, h => by
    rw [TV] at h
    obtain ⟨q, a, rfl, h1, h2⟩ := h
    rw [treeD]
    exact .tup (SqT.of h1) (.cons (.str _) (.cons (.str _) (.cons (TV.dp t a h2) .nil)))
  | .seq x y, v, h => by
    rw [TV] at h
    obtain ⟨q, a, b, rfl, h1, h2, h3⟩ := h
    rw [treeD]
    exact .tup (SqT.of h1) (.cons (.str _) (.cons (TV.dp x a h2) (.cons (TV.dp y b h3) .nil)))
  | .op c x y, v, h => by
    rw [TV] at h
    obtain ⟨q, a, b, rfl, h1, h2, h3, _⟩ := h
    rw [treeD]
    exact .tup (SqT.of h1) (.cons (.str _) (.cons (TV.dp x a h2) (.cons (TV.dp y b h3) .nil)))
theorem TVs.dp {K : PySem.W.Frag} {H : Hp} : ∀ (ts : List Tr) (vs : List V), TVs H ts vs → DpAll K H vs (treeDs ts)
  | [], vs, h => by
    rw [TVs] at h
    rw [h, treeDs]
    exact .nil
  | t :: ts, vs, h => by
    rw [TVs] at h
    obtain ⟨v, r, rfl, h1, h2⟩ := h
    rw [treeDs]
    exact .cons (TV.dp t v h1) (TVs.dp ts r h2)
end
end K3

set_option maxRecDepth 100000
set_option maxHeartbeats 4000000
/-! data that can be shown and compared, with bounds -/
namespace K3
open PySem hiding Tok
open PySem.Spec PyProof.Rows GD K1
open L2 hiding rest
open K2 hiding Sp P
structure Fit (d : PyData) (k B : Nat) : Prop where
  sh : d.showable = true
  nd : d.hasDict = false
  dp : d.depth ≤ k
  ln : d.shown.length ≤ B
  cl : d.canLay0 = true
theorem Fit.more {d : PyData} {k B k' B' : Nat} (f : Fit d k B) (h1 : k ≤ k') (h2 : B ≤ B') : Fit d k' B' := ⟨f.sh, f.nd, Nat.le_trans f.dp h1, Nat.le_trans f.ln h2, f.cl⟩
theorem Fit.str {z : Str} {n : Nat} (h1 : z.length ≤ n) (h2 : ∀ c ∈ z.cps.toList, c < 1000) : Fit (.str z) 0 (10 * n + 2) := by
  refine ⟨by simp only [PyData.showable], by simp only [PyData.hasDict], by simp only [PyData.depth]; omega, ?_, ?_⟩
  · simp only [PyData.shown]
    have := StrLaws.reprText_len z fun c hc => Nat.lt_trans (h2 c hc) (by decide)
    omega
  · simp only [PyData.canLay0]
    unfold PyData.strOk
    rw [Array.all_eq_true]
    intro i hi
    exact decide_eq_true (Nat.lt_trans (h2 _ (by
      have : z.cps[i] ∈ z.cps := Array.getElem_mem hi
      exact Array.mem_toList_iff.mpr this)) (by decide))
theorem Fit.strS {l : List Nat} {n : Nat} (h1 : l.length ≤ n) (h2 : ∀ c ∈ l, c < 1000) : Fit (.str (S l)) 0 (10 * n + 2) := Fit.str (by rw [S_len]; exact h1) h2
theorem Fit.num {n : Nat} (h : n ≤ 99999) : Fit (.int (n : Nat)) 0 5 := by
  refine ⟨?_, by simp only [PyData.hasDict], by simp only [PyData.depth]; omega, ?_, by simp only [PyData.canLay0]⟩
  · simp only [PyData.showable]
    exact decide_eq_true (log_small (by omega))
  · simp only [PyData.shown]
    have := (numT_dig h).2.1
    have e : (Str.ofString (toString ((n : Nat) : Int))).length = (numT n).length := by
      show (Str.ofString (toString ((n : Nat) : Int))).cps.size = _
      unfold numT
      simp
    rw [← e] at this
    exact this
theorem Fit.bool (b : Bool) : Fit (.bool b) 0 5 := by
  refine ⟨by simp only [PyData.showable], by simp only [PyData.hasDict], by simp only [PyData.depth]; omega, ?_, by simp only [PyData.canLay0]⟩
  cases b <;> simp only [PyData.shown] <;> decide
theorem Fit.none : Fit .none 0 5 := by
  refine ⟨by simp only [PyData.showable], by simp only [PyData.hasDict], by simp only [PyData.depth]; omega, ?_, by simp only [PyData.canLay0]⟩
  simp only [PyData.shown]; decide
structure FitA (ds : List PyData) (k B : Nat) : Prop where
  sh : PyData.showableAll ds = true
  nd : PyData.hasDictAll ds = false
  dp : PyData.depthAll ds ≤ k
  ln : ∀ x ∈ PyData.shownAll ds, x.length ≤ B
  le : (PyData.shownAll ds).length = ds.length
  cl : PyData.canLayAll0 ds = true
theorem FitA.of {k B : Nat} : ∀ {ds : List PyData}, (∀ d ∈ ds, Fit d k B) → FitA ds k B
  | [], _ => ⟨rfl, rfl, Nat.zero_le _, fun x hx => (by cases hx), rfl, rfl⟩
  | d :: ds, h => by
    have f := h d List.mem_cons_self
    have r := FitA.of (ds := ds) fun x hx => h x (List.mem_cons_of_mem _ hx)
    refine ⟨?_, ?_, ?_, fun x hx => ?_, ?_, ?_⟩
    · show (PyData.showable d && PyData.showableAll ds) = true
      rw [f.sh, r.sh]; rfl
    · show (PyData.hasDict d || PyData.hasDictAll ds) = false
      rw [f.nd, r.nd]; rfl
    · show max (PyData.depth d) (PyData.depthAll ds) ≤ k
      have := f.dp; have := r.dp; omega
    · rcases List.mem_cons.mp hx with rfl | hx
      · exact f.ln
      · exact r.ln x hx
    · show (PyData.shownAll ds).length + 1 = ds.length + 1
      rw [r.le]
    · show (PyData.canLay0 d && PyData.canLayAll0 ds) = true
      rw [f.cl, r.cl]; rfl
theorem textFrom_up2 : ∀ (ts : List Str) (k : Nat) (acc : Str) (B : Nat), (∀ t ∈ ts, t.length ≤ B) → (textFrom k acc ts).length ≤ acc.length + ts.length * (B + 2)
  | [], k, acc, B, _ => by
    show acc.length ≤ _
    omega
  | t :: ts, k, acc, B, h => by
    have ih := textFrom_up2 ts (k + 1) (acc ++ (if k > 0 then ", " else "" : String) ++ t) B (fun x hx => h x (List.mem_cons_of_mem _ hx))
    have ht := h t List.mem_cons_self
    have e : (acc ++ (if k > 0 then ", " else "" : String) ++ t).length ≤ acc.length + 2 + t.length := by
      rw [strLen_append, strLen_append]
      have : ((if k > 0 then ", " else "" : String) : Str).length ≤ 2 := by split <;> decide
      omega
    show (textFrom (k + 1) (acc ++ (if k > 0 then ", " else "" : String) ++ t) ts).length ≤ acc.length + (ts.length + 1) * (B + 2)
    rw [Nat.add_mul]
    omega
theorem Fit.list {ds : List PyData} {k B : Nat} (h : ∀ d ∈ ds, Fit d k B) : Fit (.list ds) (k + 1) (ds.length * (B + 2) + 4) := by
  have r := FitA.of h
  refine ⟨by simpa only [PyData.showable] using r.sh, by simpa only [PyData.hasDict] using r.nd, by simp only [PyData.depth]; have := r.dp; omega, ?_, by simpa only [PyData.canLay0] using r.cl⟩
  simp only [PyData.shown]
  unfold listText
  rw [strLen_append]
  have := textFrom_up2 (PyData.shownAll ds) 0 "[" B r.ln
  rw [r.le] at this
  have e1 : (("[" : String) : Str).length = 1 := rfl
  have e2 : (("]" : String) : Str).length = 1 := rfl
  rw [e1] at this
  rw [e2]
  omega
theorem piled_le {B : Nat} : ∀ {ts : List Str}, (∀ t ∈ ts, t.length ≤ B) → piled ts ≤ ts.length * (B + 2)
  | [], _ => Nat.zero_le _
  | t :: ts, h => by
    have h1 := h t List.mem_cons_self
    have h2 := piled_le (ts := ts) fun x hx => h x (List.mem_cons_of_mem _ hx)
    have e : piled (t :: ts) = t.length + 2 + piled ts := by simp [piled]
    rw [e, List.length_cons, Nat.succ_mul]
    omega
theorem Fit.tup {ds : List PyData} {k B : Nat} (h : ∀ d ∈ ds, Fit d k B) : Fit (.tuple ds) (k + 1) (ds.length * (B + 2) + 4) := by
  have r := FitA.of h
  refine ⟨by simpa only [PyData.showable] using r.sh, by simpa only [PyData.hasDict] using r.nd, by simp only [PyData.depth]; have := r.dp; omega, ?_, by simpa only [PyData.canLay0] using r.cl⟩
  simp only [PyData.shown]
  unfold tupleText
  rw [strLen_append, strLen_append]
  have e1 : (("(" : String) : Str).length = 1 := rfl
  have e2 : ((if (PyData.shownAll ds).length == 1 then ",)" else ")" : String) : Str).length ≤ 2 := by split <;> decide
  have e3 : (Str.join ", " (PyData.shownAll ds)).length ≤ ds.length * (B + 2) := by
    by_cases z : PyData.shownAll ds = []
    · rw [z]; exact Nat.zero_le _
    · have := join_length_add _ z
      have := piled_le r.ln
      rw [r.le] at this
      omega
  omega
theorem Fit.shaped {d : PyData} {k B : Nat} (f : Fit d k B) (h : k ≤ 64) : SeqAt.shaped d = true := by
  unfold SeqAt.shaped
  rw [f.cl, decide_eq_true (Nat.le_trans f.dp h)]
  rfl
end K3

set_option maxRecDepth 100000
set_option maxHeartbeats 4000000
/-! the law's own: _law_level -/
namespace K3
open PySem hiding Tok
open PySem.Spec PyProof.Rows L2 GD K1
open K2 hiding Sp P
abbrev sLevel : Stmt := topS 44
section
variable {P : Program} {w : World} {K : PySem.W.Frag} {mg : Str → Option Value} {base : Heap}
def spLev : L2.Sp := fun vs H Q _ => ∃ v t, vs = [v] ∧ TV H t v ∧ ∀ H', Same H H' → Q (.int (lvl t : Nat)) H'
theorem scLev : FnScope ["tree"] ["tree"] (defScope sLevel) := ⟨rfl, rfl, rfl, by decide +kernel, rfl, by decide +kernel, by decide +kernel⟩
theorem ok_level {f : Addr} {fd : FuncData} (F : Fun K "_law_level" "_law_level" sLevel f fd) (T : Txt K mg) : FnOk P w K mg base CX0 1 f fd ["tree"] spLev := by
  have sc := scLev
  refine F.ok sc (fun vs H Q E h => ?_) (fun cdv A outer s H vs Q E hr h => ?_)
  · obtain ⟨v, t, rfl, _⟩ := h
    rfl
  · obtain ⟨v, t, rfl, tv, q⟩ := h
    refine ⟨_, pss_cons (ps_if (pt_cmpR op_in_seq (pe_ix ix_tup (pv 0) pe_int (fun _ _ => rfl)) (pe_tup (pa_cons pe_str (pa_cons pe_str pa_nil))) rfl) (pss_one (ps_ret pe_int)) pss_nil)
      (pss_cons (ps_if (pt_cmpR op_in_seq (pe_ix ix_tup (pv 0) pe_int (fun _ _ => rfl)) (pe_tup (pa_cons pe_str (pa_cons pe_str pa_nil))) rfl) (pss_one (ps_ret pe_int)) pss_nil)
      (pss_cons (ps_if (pt_cmpR op_in_seq (pe_ix ix_tup (pv 0) pe_int (fun _ _ => rfl)) (pe_tup (pa_cons pe_str (pa_cons pe_str pa_nil))) rfl) (pss_one (ps_ret pe_int)) pss_nil)
      (pss_one (ps_ret (pe_ix ix_list (pe_lst (pa_cons pe_int (pa_cons pe_int pa_nil))) (pe_callTy call_int1 (by rfl) T.bint (by decide +kernel) (pa_cons (pe_cmpR op_eq (pe_ix ix_tup (pv 0) pe_int (fun _ _ => rfl)) pe_str (nomark _)) pa_nil)) (fun _ _ => rfl)))))), ?_⟩
    have new : ∀ {H' : Hp} {x : Addr} {o : HO}, Same H H' → H' x = none → Same H (upd H' x o) := fun {H' x o} s n b u e => by rw [upd_ne (ne_of_none (s b u e) n)]; exact s b u e
    cases t with
    | num m =>
      rw [TV] at tv
      obtain ⟨p, rfl, hp⟩ := tv
      refine ⟨_, rfl, p, _, _, _, rfl, rfl, SqT.of ((Same.refl H) _ _ hp), atI_nat (j := 0) rfl, two_le, fun u1 n1 => ⟨u1, _, rfl, .inr (SqT.of upd_same), rfl, rfl, _, rfl, ?_⟩⟩
      have s1 := new (o := .tup [.str "if", .str "set"]) (Same.refl H) n1
      refine iteF ?_
      refine ⟨_, rfl, p, _, _, _, rfl, rfl, SqT.of (s1 _ _ hp), atI_nat (j := 0) rfl, two_le, fun u2 n2 => ⟨u2, _, rfl, .inr (SqT.of upd_same), rfl, rfl, _, rfl, ?_⟩⟩
      have s2 := new (o := .tup [.str "<", .str "="]) s1 n2
      refine iteF ?_
      refine ⟨_, rfl, p, _, _, _, rfl, rfl, SqT.of (s2 _ _ hp), atI_nat (j := 0) rfl, two_le, fun u3 n3 => ⟨u3, _, rfl, .inr (SqT.of upd_same), rfl, rfl, _, rfl, ?_⟩⟩
      have s3 := new (o := .tup [.str "+", .str "-"]) s2 n3
      refine iteF ?_
      refine ⟨two_le, fun l nl => ?_⟩
      have s4 := new (o := .lst [.int 4, .int 3]) s3 nl
      refine ⟨_, rfl, p, _, _, _, rfl, rfl, SqT.of (s4 _ _ hp), atI_nat (j := 0) rfl, rfl, .inr ⟨_, rfl, ?_⟩⟩
      exact ⟨l, _, _, _, rfl, rfl, SqL.of upd_same, atI_nat (j := 0) rfl, q _ s4⟩
    | str m =>
      rw [TV] at tv
      obtain ⟨p, rfl, hp⟩ := tv
      refine ⟨_, rfl, p, _, _, _, rfl, rfl, SqT.of ((Same.refl H) _ _ hp), atI_nat (j := 0) rfl, two_le, fun u1 n1 => ⟨u1, _, rfl, .inr (SqT.of upd_same), rfl, rfl, _, rfl, ?_⟩⟩
      have s1 := new (o := .tup [.str "if", .str "set"]) (Same.refl H) n1
      refine iteF ?_
      refine ⟨_, rfl, p, _, _, _, rfl, rfl, SqT.of (s1 _ _ hp), atI_nat (j := 0) rfl, two_le, fun u2 n2 => ⟨u2, _, rfl, .inr (SqT.of upd_same), rfl, rfl, _, rfl, ?_⟩⟩
      have s2 := new (o := .tup [.str "<", .str "="]) s1 n2
      refine iteF ?_
      refine ⟨_, rfl, p, _, _, _, rfl, rfl, SqT.of (s2 _ _ hp), atI_nat (j := 0) rfl, two_le, fun u3 n3 => ⟨u3, _, rfl, .inr (SqT.of upd_same), rfl, rfl, _, rfl, ?_⟩⟩
      have s3 := new (o := .tup [.str "+", .str "-"]) s2 n3
      refine iteF ?_
      refine ⟨two_le, fun l nl => ?_⟩
      have s4 := new (o := .lst [.int 4, .int 3]) s3 nl
      refine ⟨_, rfl, p, _, _, _, rfl, rfl, SqT.of (s4 _ _ hp), atI_nat (j := 0) rfl, rfl, .inr ⟨_, rfl, ?_⟩⟩
      exact ⟨l, _, _, _, rfl, rfl, SqL.of upd_same, atI_nat (j := 0) rfl, q _ s4⟩
    | name m =>
      rw [TV] at tv
      obtain ⟨p, rfl, hp⟩ := tv
      refine ⟨_, rfl, p, _, _, _, rfl, rfl, SqT.of ((Same.refl H) _ _ hp), atI_nat (j := 0) rfl, two_le, fun u1 n1 => ⟨u1, _, rfl, .inr (SqT.of upd_same), rfl, rfl, _, rfl, ?_⟩⟩
      have s1 := new (o := .tup [.str "if", .str "set"]) (Same.refl H) n1
      refine iteF ?_
      refine ⟨_, rfl, p, _, _, _, rfl, rfl, SqT.of (s1 _ _ hp), atI_nat (j := 0) rfl, two_le, fun u2 n2 => ⟨u2, _, rfl, .inr (SqT.of upd_same), rfl, rfl, _, rfl, ?_⟩⟩
      have s2 := new (o := .tup [.str "<", .str "="]) s1 n2
      refine iteF ?_
      refine ⟨_, rfl, p, _, _, _, rfl, rfl, SqT.of (s2 _ _ hp), atI_nat (j := 0) rfl, two_le, fun u3 n3 => ⟨u3, _, rfl, .inr (SqT.of upd_same), rfl, rfl, _, rfl, ?_⟩⟩
      have s3 := new (o := .tup [.str "+", .str "-"]) s2 n3
      refine iteF ?_
      refine ⟨two_le, fun l nl => ?_⟩
      have s4 := new (o := .lst [.int 4, .int 3]) s3 nl
      refine ⟨_, rfl, p, _, _, _, rfl, rfl, SqT.of (s4 _ _ hp), atI_nat (j := 0) rfl, rfl, .inr ⟨_, rfl, ?_⟩⟩
      exact ⟨l, _, _, _, rfl, rfl, SqL.of upd_same, atI_nat (j := 0) rfl, q _ s4⟩
    | call g as =>
      rw [TV] at tv
      obtain ⟨p, ar, ws, rfl, hp, _⟩ := tv
      refine ⟨_, rfl, p, _, _, _, rfl, rfl, SqT.of ((Same.refl H) _ _ hp), atI_nat (j := 0) rfl, two_le, fun u1 n1 => ⟨u1, _, rfl, .inr (SqT.of upd_same), rfl, rfl, _, rfl, ?_⟩⟩
      have s1 := new (o := .tup [.str "if", .str "set"]) (Same.refl H) n1
      refine iteF ?_
      refine ⟨_, rfl, p, _, _, _, rfl, rfl, SqT.of (s1 _ _ hp), atI_nat (j := 0) rfl, two_le, fun u2 n2 => ⟨u2, _, rfl, .inr (SqT.of upd_same), rfl, rfl, _, rfl, ?_⟩⟩
      have s2 := new (o := .tup [.str "<", .str "="]) s1 n2
      refine iteF ?_
      refine ⟨_, rfl, p, _, _, _, rfl, rfl, SqT.of (s2 _ _ hp), atI_nat (j := 0) rfl, two_le, fun u3 n3 => ⟨u3, _, rfl, .inr (SqT.of upd_same), rfl, rfl, _, rfl, ?_⟩⟩
      have s3 := new (o := .tup [.str "+", .str "-"]) s2 n3
      refine iteF ?_
      refine ⟨two_le, fun l nl => ?_⟩
      have s4 := new (o := .lst [.int 4, .int 3]) s3 nl
      refine ⟨_, rfl, p, _, _, _, rfl, rfl, SqT.of (s4 _ _ hp), atI_nat (j := 0) rfl, rfl, .inr ⟨_, rfl, ?_⟩⟩
      exact ⟨l, _, _, _, rfl, rfl, SqL.of upd_same, atI_nat (j := 0) rfl, q _ s4⟩
    | seq x1 y1 =>
      rw [TV] at tv
      obtain ⟨p, a, b, rfl, hp, _⟩ := tv
      refine ⟨_, rfl, p, _, _, _, rfl, rfl, SqT.of ((Same.refl H) _ _ hp), atI_nat (j := 0) rfl, two_le, fun u1 n1 => ⟨u1, _, rfl, .inr (SqT.of upd_same), rfl, rfl, _, rfl, ?_⟩⟩
      have s1 := new (o := .tup [.str "if", .str "set"]) (Same.refl H) n1
      refine iteF ?_
      refine ⟨_, rfl, p, _, _, _, rfl, rfl, SqT.of (s1 _ _ hp), atI_nat (j := 0) rfl, two_le, fun u2 n2 => ⟨u2, _, rfl, .inr (SqT.of upd_same), rfl, rfl, _, rfl, ?_⟩⟩
      have s2 := new (o := .tup [.str "<", .str "="]) s1 n2
      refine iteF ?_
      refine ⟨_, rfl, p, _, _, _, rfl, rfl, SqT.of (s2 _ _ hp), atI_nat (j := 0) rfl, two_le, fun u3 n3 => ⟨u3, _, rfl, .inr (SqT.of upd_same), rfl, rfl, _, rfl, ?_⟩⟩
      have s3 := new (o := .tup [.str "+", .str "-"]) s2 n3
      refine iteF ?_
      refine ⟨two_le, fun l nl => ?_⟩
      have s4 := new (o := .lst [.int 4, .int 3]) s3 nl
      refine ⟨_, rfl, p, _, _, _, rfl, rfl, SqT.of (s4 _ _ hp), atI_nat (j := 0) rfl, rfl, .inr ⟨_, rfl, ?_⟩⟩
      exact ⟨l, _, _, _, rfl, rfl, SqL.of upd_same, atI_nat (j := 0) rfl, q _ s4⟩
    | ite x1 y1 z1 =>
      rw [TV] at tv
      obtain ⟨p, a, b, c, rfl, hp, _⟩ := tv
      refine ⟨_, rfl, p, _, _, _, rfl, rfl, SqT.of ((Same.refl H) _ _ hp), atI_nat (j := 0) rfl, two_le, fun u1 n1 => ⟨u1, _, rfl, .inr (SqT.of upd_same), rfl, rfl, _, rfl, ?_⟩⟩
      have s1 := new (o := .tup [.str "if", .str "set"]) (Same.refl H) n1
      exact iteT (q _ s1)
    | set y t =>
      rw [TV] at tv
      obtain ⟨p, a, rfl, hp, _⟩ := tv
      refine ⟨_, rfl, p, _, _, _, rfl, rfl, SqT.of ((Same.refl H) _ _ hp), atI_nat (j := 0) rfl, two_le, fun u1 n1 => ⟨u1, _, rfl, .inr (SqT.of upd_same), rfl, rfl, _, rfl, ?_⟩⟩
      have s1 := new (o := .tup [.str "if", .str "set"]) (Same.refl H) n1
      exact iteT (q _ s1)
    | op c x1 y1 =>
      rw [TV] at tv
      obtain ⟨p, a, b, rfl, hp, _, _, hk⟩ := tv
      simp only [List.mem_cons, List.not_mem_nil, or_false] at hk
      rcases hk with rfl | rfl | rfl | rfl | rfl
      · refine ⟨_, rfl, p, _, _, _, rfl, rfl, SqT.of ((Same.refl H) _ _ hp), atI_nat (j := 0) rfl, two_le, fun u1 n1 => ⟨u1, _, rfl, .inr (SqT.of upd_same), rfl, rfl, _, rfl, ?_⟩⟩
        have s1 := new (o := .tup [.str "if", .str "set"]) (Same.refl H) n1
        refine iteF ?_
        refine ⟨_, rfl, p, _, _, _, rfl, rfl, SqT.of (s1 _ _ hp), atI_nat (j := 0) rfl, two_le, fun u2 n2 => ⟨u2, _, rfl, .inr (SqT.of upd_same), rfl, rfl, _, rfl, ?_⟩⟩
        have s2 := new (o := .tup [.str "<", .str "="]) s1 n2
        refine iteF ?_
        refine ⟨_, rfl, p, _, _, _, rfl, rfl, SqT.of (s2 _ _ hp), atI_nat (j := 0) rfl, two_le, fun u3 n3 => ⟨u3, _, rfl, .inr (SqT.of upd_same), rfl, rfl, _, rfl, ?_⟩⟩
        have s3 := new (o := .tup [.str "+", .str "-"]) s2 n3
        refine iteF ?_
        refine ⟨two_le, fun l nl => ?_⟩
        have s4 := new (o := .lst [.int 4, .int 3]) s3 nl
        refine ⟨_, rfl, p, _, _, _, rfl, rfl, SqT.of (s4 _ _ hp), atI_nat (j := 0) rfl, rfl, .inr ⟨_, rfl, ?_⟩⟩
        exact ⟨l, _, _, _, rfl, rfl, SqL.of upd_same, atI_nat (j := 1) rfl, q _ s4⟩
      · refine ⟨_, rfl, p, _, _, _, rfl, rfl, SqT.of ((Same.refl H) _ _ hp), atI_nat (j := 0) rfl, two_le, fun u1 n1 => ⟨u1, _, rfl, .inr (SqT.of upd_same), rfl, rfl, _, rfl, ?_⟩⟩
        have s1 := new (o := .tup [.str "if", .str "set"]) (Same.refl H) n1
        refine iteF ?_
        refine ⟨_, rfl, p, _, _, _, rfl, rfl, SqT.of (s1 _ _ hp), atI_nat (j := 0) rfl, two_le, fun u2 n2 => ⟨u2, _, rfl, .inr (SqT.of upd_same), rfl, rfl, _, rfl, ?_⟩⟩
        have s2 := new (o := .tup [.str "<", .str "="]) s1 n2
        refine iteF ?_
        refine ⟨_, rfl, p, _, _, _, rfl, rfl, SqT.of (s2 _ _ hp), atI_nat (j := 0) rfl, two_le, fun u3 n3 => ⟨u3, _, rfl, .inr (SqT.of upd_same), rfl, rfl, _, rfl, ?_⟩⟩
        have s3 := new (o := .tup [.str "+", .str "-"]) s2 n3
        exact iteT (q _ s3)
      · refine ⟨_, rfl, p, _, _, _, rfl, rfl, SqT.of ((Same.refl H) _ _ hp), atI_nat (j := 0) rfl, two_le, fun u1 n1 => ⟨u1, _, rfl, .inr (SqT.of upd_same), rfl, rfl, _, rfl, ?_⟩⟩
        have s1 := new (o := .tup [.str "if", .str "set"]) (Same.refl H) n1
        refine iteF ?_
        refine ⟨_, rfl, p, _, _, _, rfl, rfl, SqT.of (s1 _ _ hp), atI_nat (j := 0) rfl, two_le, fun u2 n2 => ⟨u2, _, rfl, .inr (SqT.of upd_same), rfl, rfl, _, rfl, ?_⟩⟩
        have s2 := new (o := .tup [.str "<", .str "="]) s1 n2
        refine iteF ?_
        refine ⟨_, rfl, p, _, _, _, rfl, rfl, SqT.of (s2 _ _ hp), atI_nat (j := 0) rfl, two_le, fun u3 n3 => ⟨u3, _, rfl, .inr (SqT.of upd_same), rfl, rfl, _, rfl, ?_⟩⟩
        have s3 := new (o := .tup [.str "+", .str "-"]) s2 n3
        exact iteT (q _ s3)
      · refine ⟨_, rfl, p, _, _, _, rfl, rfl, SqT.of ((Same.refl H) _ _ hp), atI_nat (j := 0) rfl, two_le, fun u1 n1 => ⟨u1, _, rfl, .inr (SqT.of upd_same), rfl, rfl, _, rfl, ?_⟩⟩
        have s1 := new (o := .tup [.str "if", .str "set"]) (Same.refl H) n1
        refine iteF ?_
        refine ⟨_, rfl, p, _, _, _, rfl, rfl, SqT.of (s1 _ _ hp), atI_nat (j := 0) rfl, two_le, fun u2 n2 => ⟨u2, _, rfl, .inr (SqT.of upd_same), rfl, rfl, _, rfl, ?_⟩⟩
        have s2 := new (o := .tup [.str "<", .str "="]) s1 n2
        exact iteT (q _ s2)
      · refine ⟨_, rfl, p, _, _, _, rfl, rfl, SqT.of ((Same.refl H) _ _ hp), atI_nat (j := 0) rfl, two_le, fun u1 n1 => ⟨u1, _, rfl, .inr (SqT.of upd_same), rfl, rfl, _, rfl, ?_⟩⟩
        have s1 := new (o := .tup [.str "if", .str "set"]) (Same.refl H) n1
        refine iteF ?_
        refine ⟨_, rfl, p, _, _, _, rfl, rfl, SqT.of (s1 _ _ hp), atI_nat (j := 0) rfl, two_le, fun u2 n2 => ⟨u2, _, rfl, .inr (SqT.of upd_same), rfl, rfl, _, rfl, ?_⟩⟩
        have s2 := new (o := .tup [.str "<", .str "="]) s1 n2
        exact iteT (q _ s2)
end
end K3

set_option maxRecDepth 100000
set_option maxHeartbeats 4000000
/-! write -/
namespace K3
open PySem hiding Tok
open PySem.Spec PyProof.Rows GD K1
open L2 hiding rest
open K2 hiding Sp P
abbrev sWrite : Stmt := topS 33
abbrev sWCall : Stmt := topS 34
abbrev sWSeq : Stmt := topS 35
abbrev sWSigned : Stmt := topS 36
abbrev sWOper : Stmt := topS 37
/-! ### D.get(k, x), D a written dict -/
structure KD (K : PySem.W.Frag) (w : World) (a : Addr) : Prop where
  ex : ∃ es n, K.lookup a = some ⟨.type "dict", none, .dict es n, #[]⟩ ∧ PySem.W.KeysLit w.params es.toList
  nm : (a == sysModules) = false
def KAt (K : PySem.W.Frag) (a : Addr) (x : Str) : Option V → Prop
  | none => PySem.W.nsIn K a x = some none
  | some v => ∃ u, PySem.W.nsIn K a x = some (some u) ∧ RelV v u
def tKGet (K : PySem.W.Frag) (w : World) (td ty tx : TE) : TE := fun σ H Q => td σ H fun d H1 => ∃ a, d = .ref a ∧ KD K w a ∧
  ty σ H1 fun y H2 => tx σ H2 fun z H3 => ∃ k o, y = .str k ∧ KAt K a k o ∧ Q (o.getD z) H3
section
variable {X : Cx} {oo ee ff : Expr} {apos cpos : Pos} {td ty tx : TE}
theorem pe_kget2 (ho : PE X oo td) (he : PE X ee ty) (hf : PE X ff tx) (m : M2 X oo "get" apos ee ff cpos) : PE X (.Call (.Attribute oo "get" apos) [ee, ff] [] cpos) (tKGet X.K X.w td ty tx) := by
  refine ⟨fun pins s σ H Q I h => ?_⟩
  refine wpAny_Call_method m.base m.few m.line PySem.F.plainAttrs_dict PySem.F.slot_dict_get PySem.F.type_dict_get (thn (ho.run pins s σ H _ I h) fun uu s1 ⟨xx, H1, I1, rx, a, ex, kd, q1⟩ => ?_)
  subst ex
  obtain rfl : uu = Value.ref a := rx
  obtain ⟨es, n, hl, hk⟩ := kd.ex
  have mo := PySem.W.mapOf_K (prog := X.prog) (w := X.w) I1.kIn hl hk
  refine ⟨mo.typeIs, fun b e => ?_, ?_⟩
  · cases e
    exact ⟨_, I1.kIn _ _ hl, rfl⟩
  rw [m.trees]
  refine Calls.callWith_builtin rfl (Calls.evalArgs_plain (Calls.spliced_cons (thn (he.run pins s1 σ H1 _ I1 q1) fun iv s2 ⟨y, H2, I2, ry, q2⟩ =>
    Calls.spliced_cons (thn (hf.run pins s2 σ H2 _ I2 q2) fun fv s3 ⟨z, H3, I3, rz, k, ov, ey, g, q3⟩ => Calls.spliced_nil ?_))))
  subst ey
  obtain ⟨t, rfl⟩ := ry
  have mo3 := PySem.W.mapOf_K (prog := X.prog) (w := X.w) I3.kIn hl hk
  refine call_meetsIn PySem.F.slot_dict_get mo3.typeIs PySem.F.entry_dict_get (PySem.F.args_dict_get_3 _ _ _) (meets_dict_get_default (strKind X.prog X.w) a (strKind_is X.prog X.w k t) kd.nm fv) ⟨_, mo3, ?_⟩
  cases ov with
  | none =>
    refine ⟨z, H3, I3.tok _, ?_, q3⟩
    have e := PySem.W.find_K hl g
    show RelV z ((findBy Value.isStrOf es k).getD fv)
    rw [e]
    exact rz
  | some v =>
    obtain ⟨u, g, ru⟩ := g
    refine ⟨v, H3, I3.tok _, ?_, q3⟩
    have e := PySem.W.find_K hl g
    show RelV v ((findBy Value.isStrOf es k).getD fv)
    rw [e]
    exact ru
end
def opsM : List Nat := [42, 43, 45, 60, 61]
def tightM : List (Str × Option V) := [("if", some (.int 0)), ("set", some (.int 0)), ("=", some (.int 1)), ("<", some (.int 1)), ("+", some (.int 2)), ("-", some (.int 2)), ("*", some (.int 3)),
  ("number", none), ("string", none), ("name", none), ("call", none), ("then", none)]
/-- what the top has written for write -/
structure TxW (K : PySem.W.Frag) (w : World) (mg : Str → Option Value) : Prop where
  TIGHT : ∃ a, mg "TIGHTNESS" = some (.ref a) ∧ KD K w a ∧ ∀ p ∈ tightM, KAt K a p.1 p.2
  OPER : ∃ a, mg "OPERANDS" = some (.ref a) ∧ ∀ c ∈ opsM, ∃ q, KDct K w a (S [c]) (.ref q) ∧ ∀ H, SqT K H q [.int (lL c : Nat), .int (lR c : Nat)]
  ATOM : ∃ t, mg "ATOM" = some (.int 4 t)
/-! ### the mathematics -/
def DrL : Nat → Tr → Prop
  | 0, _ => False
  | d + 1, t => Dr d t
theorem drl_kid {n : Nat} {t u : Tr} (h : DrL (n + 1) t) (hu : u ∈ kids t) : DrL n u := by
  have h : Dr n t := h
  have two : ∀ {a b : Tr}, u ∈ [a, b] → u = a ∨ u = b := fun h => by simpa using h
  cases h with
  | num _ => cases hu
  | str _ _ => cases hu
  | name _ _ => cases hu
  | call _ _ _ hs => exact hs u hu
  | ite ha hb hc =>
    have hu : u ∈ [_, _, _] := hu
    simp only [List.mem_cons, List.not_mem_nil, or_false] at hu
    rcases hu with rfl | rfl | rfl
    · exact ha
    · exact hb
    · exact hc
  | set _ _ ht =>
    have hu : u ∈ [_] := hu
    rw [List.mem_singleton.mp hu]
    exact ht
  | seq ha hb =>
    rcases two hu with rfl | rfl
    · exact ha
    · exact hb
  | op _ ha hb =>
    rcases two hu with rfl | rfl
    · exact ha
    · exact hb
theorem drl_up {n : Nat} {t : Tr} (h : DrL n t) : DrL (n + 1) t := by
  cases n with
  | zero => exact h.elim
  | succ n => exact Dr.more h (Nat.le_succ n)
theorem most5 : most 5 = 5822 := by decide
theorem core_sm {n : Nat} {t : Tr} (h : DrL n t) (hn : n ≤ 6) : (core t).length ≤ 5822 ∧ (rest t).length ≤ 5822 := by
  cases n with
  | zero => exact h.elim
  | succ n =>
    have := core_len (Dr.more h (show n ≤ 5 by omega))
    rw [most5] at this
    exact this
theorem drl_hgt {n : Nat} {t : Tr} (h : DrL n t) : hgt t ≤ n := by
  cases n with
  | zero => exact h.elim
  | succ n => exact Dr.hgt h
theorem lenS {l : List Nat} {n : Nat} (h : l.length ≤ n) (hn : n ≤ 1000000) : (S l).length ≤ sizeLine := by
  rw [S_len]
  exact Nat.le_trans h (Nat.le_trans hn (by decide))
def joinN (a : List Nat) : List (List Nat) → List Nat
  | [] => []
  | [p] => p
  | p :: q :: r => p ++ (a ++ joinN a (q :: r))
theorem joinS (a : List Nat) : ∀ ys : List (List Nat), Txt.join (S a) (ys.map S) = S (joinN a ys) := fun ys => by
  rw [TL.join_eq]
  induction ys with
  | nil => rfl
  | cons p r ih =>
    cases r with
    | nil => rfl
    | cons q r =>
      show S p ++ S a ++ Str.join (S a) ((q :: r).map S) = S (p ++ (a ++ joinN a (q :: r)))
      rw [ih, S_app, S_app, List.append_assoc]
theorem coreM_join : ∀ (p : List Nat) (as : List Tr), p ++ coreM as = joinN [44, 32] (p :: as.map core)
  | p, [] => by rw [coreM, List.append_nil]; rfl
  | p, t :: as => by
    rw [coreM, coreM_join (core t) as]
    rfl
theorem coreL_join : ∀ as : List Tr, coreL as = joinN [44, 32] (as.map core)
  | [] => by rw [coreL]; rfl
  | t :: as => by rw [coreL, coreM_join]; rfl
def sqP : Tr → List Tr
  | .seq a b => a :: sqP b
  | t => [t]
theorem sqP_ne (t : Tr) : sqP t ≠ [] := by cases t <;> (rw [sqP] <;> simp)
theorem sqP_len : ∀ t : Tr, (sqP t).length ≤ hgt t
  | .seq a b => by rw [sqP, hgt, List.length_cons]; have := sqP_len b; omega
  | .num _ => by rw [sqP, hgt]; simp; all_goals simp
  | .str _ => by rw [sqP, hgt]; simp; all_goals simp
  | .name _ => by rw [sqP, hgt]; simp; all_goals simp
  | .call _ _ => by rw [sqP, hgt]; simp; all_goals simp
  | .ite _ _ _ => by rw [sqP, hgt]; simp; all_goals simp
  | .set _ _ => by rw [sqP, hgt]; simp; all_goals simp
  | .op _ _ _ => by rw [sqP, hgt]; simp; all_goals simp
def isSeq : Tr → Bool
  | .seq _ _ => true
  | _ => false
theorem sqP_no {t : Tr} (h : isSeq t = false) : sqP t = [t] := by
  cases t <;> first | (cases h; done) | rfl
theorem rest_no {t : Tr} (h : isSeq t = false) : rest t = core t := by
  cases t <;> first | (cases h; done) | (rw [rest, core]; done) | (rw [rest])
theorem rest_join : ∀ t : Tr, rest t = joinN [59, 32] ((sqP t).map core)
  | .seq a b => by
    rw [rest, sqP, List.map_cons, rest_join b]
    have ne := sqP_ne b
    cases e : sqP b with
    | nil => exact absurd e ne
    | cons q r => rfl
  | .num n => by rw [rest_no rfl, sqP_no rfl]; rfl
  | .str _ => by rw [rest_no rfl, sqP_no rfl]; rfl
  | .name _ => by rw [rest_no rfl, sqP_no rfl]; rfl
  | .call _ _ => by rw [rest_no rfl, sqP_no rfl]; rfl
  | .ite _ _ _ => by rw [rest_no rfl, sqP_no rfl]; rfl
  | .set _ _ => by rw [rest_no rfl, sqP_no rfl]; rfl
  | .op _ _ _ => by rw [rest_no rfl, sqP_no rfl]; rfl
theorem sum_le {B : Nat} : ∀ {l : List Str}, (∀ y ∈ l, y.length ≤ B) → (l.map (·.length)).sum ≤ l.length * B
  | [], _ => by simp
  | y :: l, h => by
    rw [List.map_cons, List.sum_cons, List.length_cons, Nat.succ_mul]
    have h1 := h y List.mem_cons_self
    have h2 := sum_le (l := l) fun z hz => h z (List.mem_cons_of_mem _ hz)
    omega
end K3

set_option maxRecDepth 100000
set_option maxHeartbeats 4000000
/-! write, its helpers -/
namespace K3
open PySem hiding Tok
open PySem.Spec PyProof.Rows GD K1
open L2 hiding rest
open K2 hiding Sp P
section
variable {P : Program} {w : World} {K : PySem.W.Frag} {mg : Str → Option Value} {base : Heap}
def spW (n : Nat) : L2.Sp := fun vs H Q _ => ∃ v t, vs = [v] ∧ TV H t v ∧ DrL n t ∧ n ≤ 6 ∧ ∀ H', Same H H' → Q (.str (S (core t))) H'
def spWO (n : Nat) : L2.Sp := fun vs H Q _ => ∃ v t, ∃ l : Nat, vs = [v, .int (l : Nat)] ∧ TV H t v ∧ DrL n t ∧ n ≤ 6 ∧ ∀ H', Same H H' → Q (.str (S (wr t l))) H'
def spWC (n : Nat) : L2.Sp := fun vs H Q _ => ∃ v f as, vs = [v] ∧ TV H (.call f as) v ∧ DrL (n + 1) (.call f as) ∧ n + 1 ≤ 6 ∧ ∀ H', Same H H' → Q (.str (S (core (.call f as)))) H'
def spWS (n : Nat) : L2.Sp := fun vs H Q _ => ∃ v a b, vs = [v] ∧ TV H (.seq a b) v ∧ DrL (n + 1) (.seq a b) ∧ n + 1 ≤ 6 ∧ ∀ H', Same H H' → Q (.str (S (core (.seq a b)))) H'
def spWB (n : Nat) : L2.Sp := fun vs H Q _ => ∃ v c a b, vs = [v] ∧ TV H (.op c a b) v ∧ DrL (n + 1) (.op c a b) ∧ n + 1 ≤ 6 ∧ ∀ H', Same H H' → Q (.str (S (core (.op c a b)))) H'
theorem same_tup {H H' : Hp} (s : Same H H') : ∀ q xs, H q = some (.tup xs) → H' q = some (.tup xs) := fun q xs e => s q _ e
theorem Same.up {H H' : Hp} {x : Addr} {o : HO} (s : Same H H') (n : H' x = none) : Same H (upd H' x o) := fun b u e => by rw [upd_ne (ne_of_none (s b u e) n)]; exact s b u e
theorem app3 (a b c : List Nat) : Str.empty ++ S a ++ S b ++ S c = S (a ++ (b ++ c)) := by
  show S [] ++ S a ++ S b ++ S c = _
  rw [S_app, S_app, S_app, List.nil_append, List.append_assoc]
theorem wcall_name {n : Nat} {f : List Nat} {as : List Tr} (h : DrL (n + 1) (.call f as)) : f.length ≤ 6 ∧ as.length ≤ 3 := by
  have h : Dr n (.call f as) := h
  cases h with
  | call h1 h2 h3 _ => exact ⟨h2, h3⟩
theorem fitT {l : List Nat} {n : Nat} (h : l.length ≤ 5822) (e : n = l.length) : n ≤ sizeLine := by
  rw [e]; exact Nat.le_trans h (by decide)
theorem scWCall : FnScope ["tree", "texts", "part"] ["tree"] (defScope sWCall) := ⟨rfl, rfl, rfl, by decide +kernel, rfl, by decide +kernel, by decide +kernel⟩
theorem ok_wcall {k n : Nat} {f f1 : Addr} {fd fd1 : FuncData} (F : Fun K "write_call" "write_call" sWCall f fd) (FW : FO P w K mg base CX0 k "write" ["tree"] (spW n) f1 fd1) :
    FnOk P w K mg base CX0 (k + 1) f fd ["tree"] (spWC n) := by
  have sc := scWCall
  refine F.ok sc (fun vs H Q E h => ?_) (fun cdv A outer s H vs Q E hr h => ?_)
  · obtain ⟨v, g, as, rfl, _⟩ := h
    rfl
  · obtain ⟨v, g, as, rfl, tv, dr, hn, q⟩ := h
    refine ⟨_, pss_cons (ps_set (i := 1) sc.nd rfl (.inl rfl) (pe_join pe_str (pe_lc (own := [("part", 2)]) (g := gName 2) (tt := tYes) rfl sc.nd (pi_tup (pe_ix ix_tup (pv 0) pe_int (fun _ _ => rfl)))
        (blkOk_by (N := ["tree", "texts", "part"]) (sc := defScope sWCall) (by decide +kernel)) (fun _ _ _ _ _ => pg_name (i := 2) sc.nd rfl (Or.inl rfl)) (fun _ _ _ _ _ => pts_nil)
        (fun _ _ _ _ _ => pe_call FW.ok hr (by rfl) FW.m FW.kp FW.b .nil pass0 (pa_cons (pv 2) pa_nil)))))
      (pss_one (ps_ret (pe_joined (PJ.cons (pe_fmt (pe_ix ix_tup (pv 0) pe_int (fun _ _ => rfl))) (PJ.cons pe_str (PJ.cons (pe_fmt (pv 1)) (PJ.cons pe_str PJ.nil))))))), ?_⟩
    have tv0 := tv
    rw [TV] at tv
    obtain ⟨p, ar, ws, rfl, hp, ha, tvs, hl⟩ := tv
    have wl := TVs.len tvs
    have sm := core_sm dr hn
    have nm := wcall_name dr
    refine ⟨⟨_, rfl⟩, _, rfl, p, _, _, _, rfl, rfl, SqT.of hp, atI_nat (j := 2) rfl, ar, rfl, ⟨_, SqT.of ha⟩, fun D nD => ?_⟩
    refine lc_tup (K := K) (a := ar) (xs := ws) (fun i H' => Same H H' ∧ H' D = some (.lst (((as.take i).map core).map fun l => .str (S l)))) ⟨Same.lst (Same.refl H) nD, upd_same⟩ (fun i H' _ p => SqT.of (p.1 _ _ ha)) (fun i x H' hx p => ?_) (fun H' p => ?_)
    · obtain ⟨u, hu, tu⟩ := TVs.get tvs hx
      refine ⟨rfl, ?_⟩
      refine ⟨_, rfl, x, u, rfl, TV.imp (same_tup p.1) u x tu, drl_kid dr (List.mem_of_getElem? hu), by omega, fun H3 s3 => ?_⟩
      refine ⟨_, s3 _ _ p.2, ?_, fun b o e => ?_, ?_⟩
      · rw [List.length_map, List.length_map, List.length_take]
        exact Nat.lt_of_le_of_lt (Nat.le_trans (Nat.min_le_right _ _) hl) (by decide)
      · rw [upd_ne (ne_of_none e nD)]
        exact s3 b o (p.1 b o e)
      · rw [upd_same, List.take_add_one, hu, List.map_append, List.map_append]
        rfl
    · rw [wl, List.take_length] at p
      obtain ⟨s1, eD⟩ := p
      have eY : ((as.map core).map fun l => V.str (S l)) = ((as.map core).map S).map V.str := (List.map_map (l := as.map core) (f := S) (g := V.str)).symm
      rw [eY] at eD
      refine ⟨_, D, (as.map core).map S, rfl, rfl, .inl (SqL.of eD), ?_, ?_⟩
      · have h1 : ∀ y ∈ (as.map core).map S, y.length ≤ 5822 := fun y hy => by
          obtain ⟨l, hl, rfl⟩ := List.mem_map.mp hy
          obtain ⟨u, hu, rfl⟩ := List.mem_map.mp hl
          rw [S_len]
          exact (core_sm (drl_kid dr hu) (by omega)).1
        have h2 := sum_le h1
        have h3 : ((as.map core).map S).length ≤ 3 := by rw [List.length_map, List.length_map]; exact nm.2
        have h4 : ((as.map core).map S).length * 5822 ≤ 3 * 5822 := Nat.mul_le_mul_right _ h3
        have h5 : ((as.map core).map S).length * (Str.ofString ", ").length ≤ 3 * 2 := Nat.mul_le_mul h3 (by decide)
        omega
      · have ej : Txt.join (Str.ofString ", ") ((as.map core).map S) = S (coreL as) := by
          rw [coreL_join]
          exact joinS [44, 32] _
        rw [ej]
        rw [core] at sm q
        have ln : (coreL as).length ≤ 5822 := by have := sm.1; simp only [List.length_append] at this; omega
        refine ⟨_, rfl, p, _, _, _, rfl, rfl, SqT.of (s1 _ _ hp), atI_nat (j := 1) rfl, .inl ⟨_, rfl, lenS nm.1 (by decide), _, rfl, ?_, ?_⟩⟩
        · show (S [] ++ S g).length ≤ sizeLine
          rw [S_app]
          exact lenS (show ([] ++ g).length ≤ 6 from nm.1) (by decide)
        refine ⟨_, rfl, ?_, _, rfl, .inl ⟨_, rfl, lenS ln (by decide), _, rfl, ?_, _, rfl, ?_, ?_⟩⟩
        · show (S [] ++ S g ++ S [40]).length ≤ sizeLine
          rw [S_app, S_app]
          refine lenS (n := 9) ?_ (by decide)
          have := nm.1
          simp only [List.length_append, List.length_cons, List.length_nil]
          omega
        · show (S [] ++ S g ++ S [40] ++ S (coreL as)).length ≤ sizeLine
          rw [S_app, S_app, S_app]
          refine lenS (n := 6000) ?_ (by decide)
          have := nm.1
          simp only [List.length_append, List.length_cons, List.length_nil]
          omega
        · show (S [] ++ S g ++ S [40] ++ S (coreL as) ++ S [41]).length ≤ sizeLine
          rw [S_app, S_app, S_app, S_app]
          refine lenS (n := 6000) ?_ (by decide)
          have := nm.1
          simp only [List.length_append, List.length_cons, List.length_nil]
          omega
        · have e : S [] ++ S g ++ S [40] ++ S (coreL as) ++ S [41] = S (g ++ ([40] ++ (coreL as ++ [41]))) := by
            rw [S_app, S_app, S_app, S_app]
            simp only [List.nil_append, List.append_assoc]
          exact e ▸ q _ s1
/-! ### write_sequence -/
theorem scWSeq : FnScope ["tree", "texts", "rest", "inner"] ["tree"] (defScope sWSeq) := ⟨rfl, rfl, rfl, by decide +kernel, rfl, by decide +kernel, by decide +kernel⟩
def cStrs (l : List Tr) : List V := ((l.map core).map S).map V.str
theorem cSnoc (l : List Tr) (t : Tr) : cStrs l ++ [.str (S (core t))] = cStrs (l ++ [t]) := by
  unfold cStrs
  rw [List.map_append, List.map_append, List.map_append]
  rfl
theorem cLen (l : List Tr) : (cStrs l).length = l.length := by unfold cStrs; rw [List.length_map, List.length_map, List.length_map]
theorem kindB (H : Hp) {t : Tr} {v : V} (h : TV H t v) (hs : isSeq t = false) : ∃ q xs z, v = .ref q ∧ H q = some (.tup xs) ∧ xs[0]? = some (.str z) ∧ decide (V.str z = V.str "then") = false := by
  cases t with
  | seq a b => cases hs
  | num _ => rw [TV] at h; obtain ⟨q, rfl, h⟩ := h; exact ⟨q, _, _, rfl, h, rfl, rfl⟩
  | str _ => rw [TV] at h; obtain ⟨q, rfl, h⟩ := h; exact ⟨q, _, _, rfl, h, rfl, rfl⟩
  | name _ => rw [TV] at h; obtain ⟨q, rfl, h⟩ := h; exact ⟨q, _, _, rfl, h, rfl, rfl⟩
  | call _ _ => rw [TV] at h; obtain ⟨q, a, vs, rfl, h, _⟩ := h; exact ⟨q, _, _, rfl, h, rfl, rfl⟩
  | ite _ _ _ => rw [TV] at h; obtain ⟨q, a, b, c, rfl, h, _⟩ := h; exact ⟨q, _, _, rfl, h, rfl, rfl⟩
  | set _ _ => rw [TV] at h; obtain ⟨q, a, rfl, h, _⟩ := h; exact ⟨q, _, _, rfl, h, rfl, rfl⟩
  | op c _ _ =>
    rw [TV] at h; obtain ⟨q, a, b, rfl, h, _, _, hk⟩ := h
    refine ⟨q, _, _, rfl, h, rfl, decide_eq_false fun e => ?_⟩
    injection e with e
    exact (kinds_op c hk).2.2.2.2 e
theorem ok_wseq {k n : Nat} {f f1 : Addr} {fd fd1 : FuncData} (F : Fun K "write_sequence" "write_sequence" sWSeq f fd) (FW : FO P w K mg base CX0 k "write" ["tree"] (spW n) f1 fd1) :
    FnOk P w K mg base CX0 (k + 1) f fd ["tree"] (spWS n) := by
  have sc := scWSeq
  refine F.ok sc (fun vs H Q E h => ?_) (fun cdv A outer s H vs Q E hr h => ?_)
  · obtain ⟨v, g, as, rfl, _⟩ := h
    rfl
  · obtain ⟨v, a0, b0, rfl, tv, dr, hn, q⟩ := h
    refine ⟨_, pss_cons (ps_set (i := 1) sc.nd rfl (.inl rfl) (pe_lst pa_nil))
      (pss_cons (ps_set (i := 2) sc.nd rfl (.inl rfl) (pv 0))
      (pss_cons (ps_while PassesOwn.never (pt_cmpR op_eq (pe_ix ix_tup (pv 2) pe_int (fun _ _ => rfl)) pe_str (nomark _))
        (pss_cons (ps_expr (pe_bm PySem.F.plainAttrs_list PySem.F.slot_list_append PySem.F.type_list_append mt_append (pv 1) (pa_cons (pe_call FW.ok hr (by rfl) FW.m FW.kp FW.b .nil pass0 (pa_cons (pe_ix ix_tup (pv 2) pe_int (fun _ _ => rfl)) pa_nil)) pa_nil)))
        (pss_one (ps_set (i := 2) sc.nd rfl (.inl rfl) (pe_ix ix_tup (pv 2) pe_int (fun _ _ => rfl))))))
      (pss_cons (ps_expr (pe_bm PySem.F.plainAttrs_list PySem.F.slot_list_append PySem.F.type_list_append mt_append (pv 1) (pa_cons (pe_call FW.ok hr (by rfl) FW.m FW.kp FW.b .nil pass0 (pa_cons (pv 2) pa_nil)) pa_nil)))
      (pss_cons (ps_set (i := 3) sc.nd rfl (.inl rfl) (pe_join pe_str (pv 1)))
      (pss_one (ps_ret (pe_joined (PJ.cons pe_str (PJ.cons (pe_fmt (pv 3)) (PJ.cons pe_str PJ.nil)))))))))), ?_⟩
    have sl : (sqP (.seq a0 b0)).length ≤ 7 := Nat.le_trans (sqP_len _) (Nat.le_trans (drl_hgt dr) (by omega))
    refine ⟨Nat.zero_le _, fun D nD => ⟨_, rfl, ?_⟩⟩
    refine ⟨fun m σ H' => ∃ u vu pre, σ = [some v, some (.ref D), some vu, none] ∧ Same H H' ∧ H' D = some (.lst (cStrs pre)) ∧ TV H' u vu ∧ DrL (n + 1) u ∧ (isSeq u = true ∨ DrL n u) ∧ (∀ x ∈ pre, DrL n x) ∧ pre ++ sqP u = sqP (.seq a0 b0) ∧ m = hgt u,
      ⟨_, .seq a0 b0, v, [], rfl, Same.lst (Same.refl H) nD, upd_same, TV.imp (same_tup (Same.lst (Same.refl H) nD)) _ v tv, dr, .inl rfl, fun x hx => (by cases hx), rfl, rfl⟩, ?_⟩
    rintro m σ H' ⟨u, vu, pre, rfl, s1, eD, tu, du, hu, hpre, hsq, rfl⟩
    have pl : pre.length ≤ 7 := by have := congrArg List.length hsq; rw [List.length_append] at this; omega
    cases e : isSeq u with
    | true =>
      cases u with
      | seq a b =>
        have tu0 := tu
        rw [TV] at tu
        obtain ⟨p, va, vb, rfl, hp, ta, tb⟩ := tu
        refine ⟨_, rfl, p, _, _, _, rfl, rfl, SqT.of hp, atI_nat (j := 0) rfl, rfl, _, rfl, iteT ?_⟩
        refine ⟨fun σ' H2 => ∃ vu pre, σ' = [some v, some (.ref D), some vu, none] ∧ Same H H2 ∧ H2 D = some (.lst (cStrs pre)) ∧ TV H2 b vu ∧ (∀ x ∈ pre, DrL n x) ∧ pre ++ sqP b = sqP (.seq a0 b0), fun σ' H2 hN => ?_, ?_⟩
        · obtain ⟨vu, pre, h1, h2, h3, h4, h5, h6⟩ := hN
          have db : DrL n b := drl_kid du (by show b ∈ [a, b]; simp)
          exact ⟨hgt b, by rw [hgt]; omega, b, vu, pre, h1, h2, h3, h4, drl_up db, .inr db, h5, h6, rfl⟩
        have da : DrL n a := drl_kid du (by show a ∈ [a, b]; simp)
        refine ⟨_, rfl, .inl ⟨rfl, _, SqL.of eD⟩, _, rfl, p, _, _, _, rfl, rfl, SqT.of hp, atI_nat (j := 1) rfl, va, a, rfl, ta, da, by omega, fun H2 s2 => ?_⟩
        have eD2 := s2 _ _ eD
        refine ⟨D, _, _, rfl, rfl, eD2, ?_, ?_⟩
        · rw [cLen]; exact Nat.lt_of_le_of_lt pl (by decide)
        have hp2 := s2 _ _ hp
        have nD2 : p ≠ D := ne_of hp2 eD2 (by intro z; cases z)
        have kt : ∀ o, ∀ q xs, H2 q = some (.tup xs) → upd H2 D (.lst o) q = some (.tup xs) := fun o q xs hq => by rw [upd_ne (ne_of hq eD2 (by intro z; cases z))]; exact hq
        refine ⟨_, rfl, p, _, _, _, rfl, rfl, SqT.of (kt _ _ _ hp2), atI_nat (j := 2) rfl, ?_⟩
        refine ⟨vb, pre ++ [a], rfl, fun c o hc => ?_, ?_, TV.imp (kt _) b vb (TV.imp (same_tup s2) b vb tb), fun x hx => ?_, ?_⟩
        · rw [upd_ne (ne_of_none hc nD)]
          exact s2 _ _ (s1 _ _ hc)
        · rw [upd_same, cSnoc]
        · rcases List.mem_append.mp hx with hx | hx
          · exact hpre x hx
          · rw [List.mem_singleton.mp hx]; exact da
        · rw [← hsq, sqP, List.append_assoc]; rfl
      | _ => cases e
    | false =>
      obtain ⟨p, xs, z, rfl, hp, h0, dz⟩ := kindB H' tu e
      have dn : DrL n u := by rcases hu with h | h; (rw [e] at h; cases h); exact h
      refine ⟨_, rfl, p, _, _, _, rfl, rfl, SqT.of hp, atI_nat (j := 0) h0, rfl, _, rfl, ?_⟩
      rw [dz]
      refine iteF ?_
      refine ⟨_, rfl, .inl ⟨rfl, _, SqL.of eD⟩, _, rfl, .ref p, u, rfl, tu, dn, by omega, fun H2 s2 => ?_⟩
      have eD2 := s2 _ _ eD
      refine ⟨D, _, _, rfl, rfl, eD2, ?_, ?_⟩
      · rw [cLen]; exact Nat.lt_of_le_of_lt pl (by decide)
      rw [cSnoc, ← sqP_no e, hsq]
      have s3 : Same H (upd H2 D (.lst (cStrs (sqP (.seq a0 b0))))) := fun c o hc => by
        rw [upd_ne (ne_of_none hc nD)]
        exact s2 _ _ (s1 _ _ hc)
      have sm := core_sm dr hn
      have all : ∀ x ∈ sqP (.seq a0 b0), DrL n x := fun x hx => by
        rw [← hsq, sqP_no e] at hx
        rcases List.mem_append.mp hx with hx | hx
        · exact hpre x hx
        · rw [List.mem_singleton.mp hx]; exact dn
      refine ⟨⟨_, rfl⟩, _, rfl, _, D, ((sqP (.seq a0 b0)).map core).map S, rfl, rfl, .inl (SqL.of upd_same), ?_, ?_⟩
      · have h1 : ∀ y ∈ ((sqP (.seq a0 b0)).map core).map S, y.length ≤ 5822 := fun y hy => by
          obtain ⟨l, hl, rfl⟩ := List.mem_map.mp hy
          obtain ⟨u, hu, rfl⟩ := List.mem_map.mp hl
          rw [S_len]
          exact (core_sm (all u hu) (by omega)).1
        have h2 := sum_le h1
        have h3 : (((sqP (.seq a0 b0)).map core).map S).length ≤ 7 := by rw [List.length_map, List.length_map]; exact sl
        have h4 : (((sqP (.seq a0 b0)).map core).map S).length * 5822 ≤ 7 * 5822 := Nat.mul_le_mul_right _ h3
        have h5 : (((sqP (.seq a0 b0)).map core).map S).length * (Str.ofString "; ").length ≤ 7 * 2 := Nat.mul_le_mul h3 (by decide)
        omega
      · have ej : Txt.join (Str.ofString "; ") (((sqP (.seq a0 b0)).map core).map S) = S (rest (.seq a0 b0)) := by
          rw [rest_join]
          exact joinS [59, 32] _
        rw [ej]
        have ln := sm.2
        refine ⟨_, rfl, ?_, _, rfl, .inl ⟨_, rfl, lenS ln (by decide), _, rfl, ?_, _, rfl, ?_, ?_⟩⟩
        · show (S [] ++ S [40]).length ≤ sizeLine
          decide
        · show (S [] ++ S [40] ++ S (rest (.seq a0 b0))).length ≤ sizeLine
          rw [S_app, S_app]
          refine lenS (n := 6000) ?_ (by decide)
          simp only [List.length_append, List.length_cons, List.length_nil]
          omega
        · show (S [] ++ S [40] ++ S (rest (.seq a0 b0)) ++ S [41]).length ≤ sizeLine
          rw [S_app, S_app, S_app]
          refine lenS (n := 6000) ?_ (by decide)
          simp only [List.length_append, List.length_cons, List.length_nil]
          omega
        · have e : S [] ++ S [40] ++ S (rest (.seq a0 b0)) ++ S [41] = S (core (.seq a0 b0)) := by
            rw [S_app, S_app, S_app, core, rest]
            simp only [List.nil_append, List.append_assoc]
          exact e ▸ q _ s3
end
end K3

set_option maxRecDepth 100000
set_option maxHeartbeats 8000000
/-! write, whole -/
namespace K3
open PySem hiding Tok code
open PySem.Spec PyProof.Rows GD K1
open L2 hiding rest
open K2 hiding Sp P
section
variable {P : Program} {w : World} {K : PySem.W.Frag} {mg : Str → Option Value} {base : Heap}
theorem scWOper : FnScope ["tree", "least", "text"] ["tree", "least"] (defScope sWOper) := ⟨rfl, rfl, rfl, by decide +kernel, rfl, by decide +kernel, by decide +kernel⟩
/-- a tree's first part, and how tightly it binds -/
theorem kindT {H : Hp} {t : Tr} {v : V} (h : TV H t v) : ∃ q xs z o, v = .ref q ∧ H q = some (.tup xs) ∧ xs[0]? = some (.str z) ∧ (z, o) ∈ tightM ∧ o.getD (.int 4) = V.int (lvl t : Nat) := by
  cases t with
  | seq a b => rw [TV] at h; obtain ⟨q, a, b, rfl, h, _⟩ := h; exact ⟨q, _, _, none, rfl, h, rfl, by simp [tightM], rfl⟩
  | num _ => rw [TV] at h; obtain ⟨q, rfl, h⟩ := h; exact ⟨q, _, _, none, rfl, h, rfl, by simp [tightM], rfl⟩
  | str _ => rw [TV] at h; obtain ⟨q, rfl, h⟩ := h; exact ⟨q, _, _, none, rfl, h, rfl, by simp [tightM], rfl⟩
  | name _ => rw [TV] at h; obtain ⟨q, rfl, h⟩ := h; exact ⟨q, _, _, none, rfl, h, rfl, by simp [tightM], rfl⟩
  | call _ _ => rw [TV] at h; obtain ⟨q, a, vs, rfl, h, _⟩ := h; exact ⟨q, _, _, none, rfl, h, rfl, by simp [tightM], rfl⟩
  | ite _ _ _ => rw [TV] at h; obtain ⟨q, a, b, c, rfl, h, _⟩ := h; exact ⟨q, _, _, some (.int 0), rfl, h, rfl, by simp [tightM], rfl⟩
  | set _ _ => rw [TV] at h; obtain ⟨q, a, rfl, h, _⟩ := h; exact ⟨q, _, _, some (.int 0), rfl, h, rfl, by simp [tightM], rfl⟩
  | op c _ _ =>
    rw [TV] at h; obtain ⟨q, a, b, rfl, h, _, _, hk⟩ := h
    simp only [List.mem_cons, List.not_mem_nil, or_false] at hk
    rcases hk with rfl | rfl | rfl | rfl | rfl
    · exact ⟨q, _, "*", some (.int 3), rfl, h, rfl, by simp [tightM], rfl⟩
    · exact ⟨q, _, "+", some (.int 2), rfl, h, rfl, by simp [tightM], rfl⟩
    · exact ⟨q, _, "-", some (.int 2), rfl, h, rfl, by simp [tightM], rfl⟩
    · exact ⟨q, _, "<", some (.int 1), rfl, h, rfl, by simp [tightM], rfl⟩
    · exact ⟨q, _, "=", some (.int 1), rfl, h, rfl, by simp [tightM], rfl⟩
theorem ok_woper {k n : Nat} {f f1 : Addr} {fd fd1 : FuncData} (F : Fun K "write_operand" "write_operand" sWOper f fd) (W : TxW K w mg) (FW : FO P w K mg base CX0 k "write" ["tree"] (spW n) f1 fd1) :
    FnOk P w K mg base CX0 (k + 1) f fd ["tree", "least"] (spWO n) := by
  have sc := scWOper
  obtain ⟨aT, gT, kd, kt⟩ := W.TIGHT
  obtain ⟨tA, gA⟩ := W.ATOM
  refine F.ok sc (fun vs H Q E h => ?_) (fun cdv A outer s H vs Q E hr h => ?_)
  · obtain ⟨v, t, l, rfl, _⟩ := h
    rfl
  · obtain ⟨v, t, l, rfl, tv, dr, hn, q⟩ := h
    refine ⟨_, pss_cons (ps_set (i := 2) sc.nd rfl (.inl rfl) (pe_call FW.ok hr (by rfl) FW.m FW.kp FW.b .nil pass0 (pa_cons (pv 0) pa_nil)))
      (pss_cons (ps_if (pt_cmpR op_lt (pe_kget2 (pe_glob (v := .ref aT) rfl gT rfl) (pe_ix ix_tup (pv 0) pe_int (fun _ _ => rfl)) (pe_gint rfl gA) ⟨rfl, rfl, rfl, rfl⟩) (pv 1) (nomark _))
        (pss_one (ps_ret (pe_joined (PJ.cons pe_str (PJ.cons (pe_fmt (pv 2)) (PJ.cons pe_str PJ.nil)))))) pss_nil)
      (pss_one (ps_ret (pv 2)))), ?_⟩
    have sm := (core_sm dr hn).1
    refine ⟨_, rfl, v, t, rfl, tv, dr, hn, fun H1 s1 => ?_⟩
    obtain ⟨p, xs, z, o, rfl, hp, h0, hz, ho⟩ := kindT (TV.imp (same_tup s1) t v tv)
    refine ⟨aT, rfl, kd, _, rfl, p, _, _, _, rfl, rfl, SqT.of hp, atI_nat (j := 0) h0, z, o, rfl, kt _ hz, ?_⟩
    refine ⟨_, rfl, _, _, ho, rfl, _, rfl, ite2 (fun h => ?_) (fun h => ?_)⟩
    · have lt : lvl t < l := by have := of_decide_eq_true h; omega
      refine ⟨_, rfl, ?_, _, rfl, .inl ⟨_, rfl, lenS sm (by decide), _, rfl, ?_, _, rfl, ?_, ?_⟩⟩
      · show (S [] ++ S [40]).length ≤ sizeLine
        decide
      · show (S [] ++ S [40] ++ S (core t)).length ≤ sizeLine
        rw [S_app, S_app]
        refine lenS (n := 6000) ?_ (by decide)
        simp only [List.length_append, List.length_cons, List.length_nil]
        omega
      · show (S [] ++ S [40] ++ S (core t) ++ S [41]).length ≤ sizeLine
        rw [S_app, S_app, S_app]
        refine lenS (n := 6000) ?_ (by decide)
        simp only [List.length_append, List.length_cons, List.length_nil]
        omega
      · have e : S [] ++ S [40] ++ S (core t) ++ S [41] = S (wr t l) := by
          unfold wr inPar
          rw [S_app, S_app, S_app, if_pos (decide_eq_true lt)]
          simp only [List.nil_append, List.append_assoc]
        exact e ▸ q _ s1
    · have nl : ¬ lvl t < l := fun z => h (decide_eq_true (by omega))
      refine ⟨_, rfl, ?_⟩
      have e : core t = wr t l := by unfold wr inPar; rw [if_neg (by simpa using nl)]
      exact e ▸ q _ s1
theorem scWSg : FnScope ["tree", "sign", "left", "right", "left_least", "right_least"] ["tree"] (defScope sWSigned) := ⟨rfl, rfl, rfl, by decide +kernel, rfl, by decide +kernel, by decide +kernel⟩
theorem wr_len {n : Nat} {t : Tr} (h : DrL n t) (hn : n ≤ 6) (l : Nat) : (wr t l).length ≤ 5824 := by
  have := (core_sm h hn).1
  unfold wr inPar
  split <;> simp <;> omega
theorem ok_wsigned {k n : Nat} {f f1 : Addr} {fd fd1 : FuncData} (F : Fun K "write_signed" "write_signed" sWSigned f fd) (W : TxW K w mg) (FW : FO P w K mg base CX0 k "write_operand" ["tree", "least"] (spWO n) f1 fd1) :
    FnOk P w K mg base CX0 (k + 1) f fd ["tree"] (spWB n) := by
  have sc := scWSg
  obtain ⟨aO, gO, ko⟩ := W.OPER
  refine F.ok sc (fun vs H Q E h => ?_) (fun cdv A outer s H vs Q E hr h => ?_)
  · obtain ⟨v, c, a, b, rfl, _⟩ := h
    rfl
  · obtain ⟨v, c, a, b, rfl, tv, dr, hn, q⟩ := h
    refine ⟨_, pss_cons (ps_asg (pv 0) (pg_tup rfl (pgs_cons (pg_name (i := 1) sc.nd rfl (.inl rfl)) (pgs_cons (pg_name (i := 2) sc.nd rfl (.inl rfl)) (pgs_cons (pg_name (i := 3) sc.nd rfl (.inl rfl)) pgs_nil)))))
      (pss_cons (ps_asg (pe_ix ix_kdict (pe_glob (v := .ref aO) rfl gO rfl) (pv 1) (fun _ _ => rfl)) (pg_tup rfl (pgs_cons (pg_name (i := 4) sc.nd rfl (.inl rfl)) (pgs_cons (pg_name (i := 5) sc.nd rfl (.inl rfl)) pgs_nil))))
      (pss_one (ps_ret (pe_joined (PJ.cons (pe_fmt (pe_call FW.ok hr (by rfl) FW.m FW.kp FW.b .nil pass0 (pa_cons (pv 2) (pa_cons (pv 4) pa_nil))))
        (PJ.cons pe_str (PJ.cons (pe_fmt (pv 1)) (PJ.cons pe_str (PJ.cons (pe_fmt (pe_call FW.ok hr (by rfl) FW.m FW.kp FW.b .nil pass0 (pa_cons (pv 3) (pa_cons (pv 5) pa_nil)))) PJ.nil))))))))), ?_⟩
    rw [TV] at tv
    obtain ⟨p, va, vb, rfl, hp, ta, tb, hc⟩ := tv
    obtain ⟨qo, kq, sq⟩ := ko c hc
    have da : DrL n a := drl_kid dr (by show a ∈ [a, b]; simp)
    have db : DrL n b := drl_kid dr (by show b ∈ [a, b]; simp)
    refine ⟨_, rfl, p, _, rfl, SqT.of hp, rfl, _, _, rfl, _, _, rfl, _, _, rfl, rfl, ?_⟩
    refine ⟨_, rfl, aO, _, _, rfl, rfl, kq, qo, _, rfl, sq H, rfl, _, _, rfl, _, _, rfl, rfl, ?_⟩
    have la := wr_len da (by omega) (lL c)
    have lb := wr_len db (by omega) (lR c)
    refine ⟨_, rfl, _, rfl, va, a, _, rfl, ta, da, by omega, fun H1 s1 => .inl ⟨_, rfl, lenS la (by decide), _, rfl, ?_, _, rfl, ?_, _, rfl, .inl ⟨_, rfl, ?_, _, rfl, ?_, _, rfl, ?_, ?_⟩⟩⟩
    · show (S [] ++ S (wr a (lL c))).length ≤ sizeLine
      rw [S_app]
      exact lenS la (by decide)
    · show (S [] ++ S (wr a (lL c)) ++ S [32]).length ≤ sizeLine
      rw [S_app, S_app]
      refine lenS (n := 6000) ?_ (by decide)
      simp only [List.length_append, List.length_cons, List.length_nil]
      omega
    · exact lenS (n := 1) (Nat.le_refl _) (by decide)
    · show (S [] ++ S (wr a (lL c)) ++ S [32] ++ S [c]).length ≤ sizeLine
      rw [S_app, S_app, S_app]
      refine lenS (n := 6000) ?_ (by decide)
      simp only [List.length_append, List.length_cons, List.length_nil]
      omega
    · show (S [] ++ S (wr a (lL c)) ++ S [32] ++ S [c] ++ S [32]).length ≤ sizeLine
      rw [S_app, S_app, S_app, S_app]
      refine lenS (n := 6000) ?_ (by decide)
      simp only [List.length_append, List.length_cons, List.length_nil]
      omega
    · refine ⟨_, rfl, _, rfl, vb, b, _, rfl, TV.imp (same_tup s1) b vb tb, db, by omega, fun H2 s2 => .inl ⟨_, rfl, lenS lb (by decide), _, rfl, ?_, ?_⟩⟩
      · show (S [] ++ S (wr a (lL c)) ++ S [32] ++ S [c] ++ S [32] ++ S (wr b (lR c))).length ≤ sizeLine
        rw [S_app, S_app, S_app, S_app, S_app]
        refine lenS (n := 16000) ?_ (by decide)
        simp only [List.length_append, List.length_cons, List.length_nil]
        omega
      · have e : S [] ++ S (wr a (lL c)) ++ S [32] ++ S [c] ++ S [32] ++ S (wr b (lR c)) = S (core (.op c a b)) := by
          rw [S_app, S_app, S_app, S_app, S_app, core]
          unfold wr
          simp only [List.nil_append, List.append_assoc]
          rfl
        exact e ▸ q _ (fun c o hc => s2 _ _ (s1 _ _ hc))
theorem scWrite : FnScope ["tree", "kind"] ["tree"] (defScope sWrite) := ⟨rfl, rfl, rfl, by decide +kernel, rfl, by decide +kernel, by decide +kernel⟩
theorem num_bit {n : Nat} (h : n ≤ 99999) : ((n : Nat) : Int).natAbs.log2 < 1920 := log_small (by omega)
theorem ok_write1 {k n : Nat} {f f1 f2 f3 f4 : Addr} {fd fd1 fd2 fd3 fd4 : FuncData} (F : Fun K "write" "write" sWrite f fd) (T : Txt K mg) (FW : FO P w K mg base CX0 k "write" ["tree"] (spW n) f1 fd1)
    (FC : FO P w K mg base CX0 (k + 1) "write_call" ["tree"] (spWC n) f2 fd2) (FS : FO P w K mg base CX0 (k + 1) "write_sequence" ["tree"] (spWS n) f3 fd3) (FB : FO P w K mg base CX0 (k + 2) "write_signed" ["tree"] (spWB n) f4 fd4) :
    FnOk P w K mg base CX0 (k + 3) f fd ["tree"] (spW (n + 1)) := by
  have sc := scWrite
  refine F.ok sc (fun vs H Q E h => ?_) (fun cdv A outer s H vs Q E hr h => ?_)
  · obtain ⟨v, t, rfl, _⟩ := h
    rfl
  · obtain ⟨v, t, rfl, tv, dr, hn, q⟩ := h
    have hr0 : Room k _ := hr.mono (by omega)
    have hr1 : Room (k + 1) _ := hr.mono (by omega)
    refine ⟨_, pss_cons (ps_set (i := 1) sc.nd rfl (.inl rfl) (pe_ix ix_tup (pv 0) pe_int (fun _ _ => rfl)))
      (pss_cons (ps_if (pt_cmpR op_eq (pv 1) pe_str (nomark _)) (pss_one (ps_ret (pe_callTy call_str_int (by rfl) T.bstr (by decide +kernel) (pa_cons (pe_ix ix_tup (pv 0) pe_int (fun _ _ => rfl)) pa_nil)))) pss_nil)
      (pss_cons (ps_if (pt_cmpR op_eq (pv 1) pe_str (nomark _)) (pss_one (ps_ret (pe_joined (PJ.cons pe_str (PJ.cons (pe_fmt (pe_ix ix_tup (pv 0) pe_int (fun _ _ => rfl))) (PJ.cons pe_str PJ.nil)))))) pss_nil)
      (pss_cons (ps_if (pt_cmpR op_eq (pv 1) pe_str (nomark _)) (pss_one (ps_ret (pe_ix ix_tup (pv 0) pe_int (fun _ _ => rfl)))) pss_nil)
      (pss_cons (ps_if (pt_cmpR op_eq (pv 1) pe_str (nomark _)) (pss_one (ps_ret (pe_call FC.ok hr1 (by rfl) FC.m FC.kp FC.b .nil pass0 (pa_cons (pv 0) pa_nil)))) pss_nil)
      (pss_cons (ps_if (pt_cmpR op_eq (pv 1) pe_str (nomark _)) (pss_one (ps_ret (pe_joined (PJ.cons pe_str (PJ.cons (pe_fmt (pe_call FW.ok hr0 (by rfl) FW.m FW.kp FW.b .nil pass0 (pa_cons (pe_ix ix_tup (pv 0) pe_int (fun _ _ => rfl)) pa_nil)))
          (PJ.cons pe_str (PJ.cons (pe_fmt (pe_call FW.ok hr0 (by rfl) FW.m FW.kp FW.b .nil pass0 (pa_cons (pe_ix ix_tup (pv 0) pe_int (fun _ _ => rfl)) pa_nil)))
          (PJ.cons pe_str (PJ.cons (pe_fmt (pe_call FW.ok hr0 (by rfl) FW.m FW.kp FW.b .nil pass0 (pa_cons (pe_ix ix_tup (pv 0) pe_int (fun _ _ => rfl)) pa_nil))) PJ.nil))))))))) pss_nil)
      (pss_cons (ps_if (pt_cmpR op_eq (pv 1) pe_str (nomark _)) (pss_one (ps_ret (pe_joined (PJ.cons pe_str (PJ.cons (pe_fmt (pe_ix ix_tup (pv 0) pe_int (fun _ _ => rfl)))
          (PJ.cons pe_str (PJ.cons (pe_fmt (pe_call FW.ok hr0 (by rfl) FW.m FW.kp FW.b .nil pass0 (pa_cons (pe_ix ix_tup (pv 0) pe_int (fun _ _ => rfl)) pa_nil))) PJ.nil))))))) pss_nil)
      (pss_cons (ps_if (pt_cmpR op_eq (pv 1) pe_str (nomark _)) (pss_one (ps_ret (pe_call FS.ok hr1 (by rfl) FS.m FS.kp FS.b .nil pass0 (pa_cons (pv 0) pa_nil)))) pss_nil)
      (pss_one (ps_ret (pe_call FB.ok hr (by rfl) FB.m FB.kp FB.b .nil pass0 (pa_cons (pv 0) pa_nil))))))))))), ?_⟩
    cases t with
    | num m =>
      have tv0 := tv
      rw [TV] at tv
      obtain ⟨p, rfl, hp⟩ := tv
      have hm : m ≤ 99999 := by have dr : Dr n (.num m) := dr; cases dr with | num h => exact h
      refine ⟨_, rfl, p, _, _, _, rfl, rfl, SqT.of hp, atI_nat (j := 0) rfl, _, rfl, rfl, _, rfl, iteT ?_⟩
      refine ⟨_, rfl, p, _, _, _, rfl, rfl, SqT.of hp, atI_nat (j := 1) rfl, _, rfl, num_bit hm, ?_⟩
      have e : (Str.ofString (toString (m : Int))) = S (core (.num m)) := by rw [core]; exact (S_of _).symm
      exact e ▸ q H (Same.refl H)
    | str m =>
      rw [TV] at tv
      obtain ⟨p, rfl, hp⟩ := tv
      have hm : m.length ≤ 12 := by have dr : Dr n (.str m) := dr; cases dr with | str h _ => exact h
      refine ⟨_, rfl, p, _, _, _, rfl, rfl, SqT.of hp, atI_nat (j := 0) rfl, _, rfl, rfl, _, rfl, iteF ⟨_, rfl, rfl, _, rfl, iteT ?_⟩⟩
      refine ⟨_, rfl, ?_, _, rfl, p, _, _, _, rfl, rfl, SqT.of hp, atI_nat (j := 1) rfl, .inl ⟨_, rfl, lenS hm (by decide), _, rfl, ?_, _, rfl, ?_, ?_⟩⟩
      · show (S [] ++ S [34]).length ≤ sizeLine
        decide
      · show (S [] ++ S [34] ++ S m).length ≤ sizeLine
        rw [S_app, S_app]
        refine lenS (n := 6000) ?_ (by decide)
        simp only [List.length_append, List.length_cons, List.length_nil]
        omega
      · show (S [] ++ S [34] ++ S m ++ S [34]).length ≤ sizeLine
        rw [S_app, S_app, S_app]
        refine lenS (n := 6000) ?_ (by decide)
        simp only [List.length_append, List.length_cons, List.length_nil]
        omega
      · have e : S [] ++ S [34] ++ S m ++ S [34] = S (core (.str m)) := by
          rw [S_app, S_app, S_app, core]
          rfl
        exact e ▸ q H (Same.refl H)
    | name m =>
      rw [TV] at tv
      obtain ⟨p, rfl, hp⟩ := tv
      refine ⟨_, rfl, p, _, _, _, rfl, rfl, SqT.of hp, atI_nat (j := 0) rfl, _, rfl, rfl, _, rfl, iteF ⟨_, rfl, rfl, _, rfl, iteF ⟨_, rfl, rfl, _, rfl, iteT ?_⟩⟩⟩
      rw [core] at q
      exact ⟨_, rfl, p, _, _, _, rfl, rfl, SqT.of hp, atI_nat (j := 1) rfl, q H (Same.refl H)⟩
    | call g as =>
      have tv0 := tv
      rw [TV] at tv
      obtain ⟨p, ar, ws, rfl, hp, _⟩ := tv
      refine ⟨_, rfl, p, _, _, _, rfl, rfl, SqT.of hp, atI_nat (j := 0) rfl, _, rfl, rfl, _, rfl, iteF ⟨_, rfl, rfl, _, rfl, iteF ⟨_, rfl, rfl, _, rfl, iteF ⟨_, rfl, rfl, _, rfl, iteT ?_⟩⟩⟩⟩
      exact ⟨_, rfl, .ref p, g, as, rfl, tv0, dr, hn, q⟩
    | ite x y z =>
      rw [TV] at tv
      obtain ⟨p, va, vb, vc, rfl, hp, ta, tb, tc⟩ := tv
      have da : DrL n x := drl_kid dr (by show x ∈ [x, y, z]; simp)
      have db : DrL n y := drl_kid dr (by show y ∈ [x, y, z]; simp)
      have dc : DrL n z := drl_kid dr (by show z ∈ [x, y, z]; simp)
      have la := (core_sm da (by omega)).1
      have lb := (core_sm db (by omega)).1
      have lc := (core_sm dc (by omega)).1
      have eI : (code "if ").length = 3 := by decide +kernel
      have eT : (code " then ").length = 6 := by decide +kernel
      have eE : (code " else ").length = 6 := by decide +kernel
      refine ⟨_, rfl, p, _, _, _, rfl, rfl, SqT.of hp, atI_nat (j := 0) rfl, _, rfl, rfl, _, rfl, iteF ⟨_, rfl, rfl, _, rfl, iteF ⟨_, rfl, rfl, _, rfl, iteF ⟨_, rfl, rfl, _, rfl, iteF ⟨_, rfl, rfl, _, rfl, iteT ?_⟩⟩⟩⟩⟩
      refine ⟨_, rfl, ?_, _, rfl, p, _, _, _, rfl, rfl, SqT.of hp, atI_nat (j := 1) rfl, va, x, rfl, ta, da, by omega, fun H1 s1 => .inl ⟨_, rfl, lenS la (by decide), _, rfl, ?_, _, rfl, ?_, ?_⟩⟩
      · show (S [] ++ S (code "if ")).length ≤ sizeLine
        decide +kernel
      · show (S [] ++ S (code "if ") ++ S (core x)).length ≤ sizeLine
        rw [S_app, S_app]
        refine lenS (n := 6000) ?_ (by decide)
        simp only [List.length_append, List.length_cons, List.length_nil]
        omega
      · show (S [] ++ S (code "if ") ++ S (core x) ++ S (code " then ")).length ≤ sizeLine
        rw [S_app, S_app, S_app]
        refine lenS (n := 6000) ?_ (by decide)
        simp only [List.length_append, List.length_cons, List.length_nil]
        omega
      refine ⟨_, rfl, p, _, _, _, rfl, rfl, SqT.of (s1 _ _ hp), atI_nat (j := 2) rfl, vb, y, rfl, TV.imp (same_tup s1) y vb tb, db, by omega, fun H2 s2 => .inl ⟨_, rfl, lenS lb (by decide), _, rfl, ?_, _, rfl, ?_, ?_⟩⟩
      · show (S [] ++ S (code "if ") ++ S (core x) ++ S (code " then ") ++ S (core y)).length ≤ sizeLine
        rw [S_app, S_app, S_app, S_app]
        refine lenS (n := 16000) ?_ (by decide)
        simp only [List.length_append, List.length_cons, List.length_nil]
        omega
      · show (S [] ++ S (code "if ") ++ S (core x) ++ S (code " then ") ++ S (core y) ++ S (code " else ")).length ≤ sizeLine
        rw [S_app, S_app, S_app, S_app, S_app]
        refine lenS (n := 16000) ?_ (by decide)
        simp only [List.length_append, List.length_cons, List.length_nil]
        omega
      have s12 : Same H H2 := fun c o hc => s2 _ _ (s1 _ _ hc)
      refine ⟨_, rfl, p, _, _, _, rfl, rfl, SqT.of (s12 _ _ hp), atI_nat (j := 3) rfl, vc, z, rfl, TV.imp (same_tup s12) z vc tc, dc, by omega, fun H3 s3 => .inl ⟨_, rfl, lenS lc (by decide), _, rfl, ?_, ?_⟩⟩
      · show (S [] ++ S (code "if ") ++ S (core x) ++ S (code " then ") ++ S (core y) ++ S (code " else ") ++ S (core z)).length ≤ sizeLine
        rw [S_app, S_app, S_app, S_app, S_app, S_app]
        refine lenS (n := 26000) ?_ (by decide)
        simp only [List.length_append, List.length_cons, List.length_nil]
        omega
      · have e : S [] ++ S (code "if ") ++ S (core x) ++ S (code " then ") ++ S (core y) ++ S (code " else ") ++ S (core z) = S (core (.ite x y z)) := by
          rw [S_app, S_app, S_app, S_app, S_app, S_app, core]
          simp only [List.nil_append, List.append_assoc]
        exact e ▸ q _ (fun c o hc => s3 _ _ (s12 _ _ hc))
    | set y t =>
      rw [TV] at tv
      obtain ⟨p, va, rfl, hp, ta⟩ := tv
      have da : DrL n t := drl_kid dr (by show t ∈ [t]; simp)
      have la := (core_sm da (by omega)).1
      have hm : y.length ≤ 6 := by have dr : Dr n (.set y t) := dr; cases dr with | set _ h _ => exact h
      have eS : (code "set ").length = 4 := by decide +kernel
      refine ⟨_, rfl, p, _, _, _, rfl, rfl, SqT.of hp, atI_nat (j := 0) rfl, _, rfl, rfl, _, rfl, iteF ⟨_, rfl, rfl, _, rfl, iteF ⟨_, rfl, rfl, _, rfl, iteF ⟨_, rfl, rfl, _, rfl, iteF ⟨_, rfl, rfl, _, rfl, iteF ⟨_, rfl, rfl, _, rfl, iteT ?_⟩⟩⟩⟩⟩⟩
      refine ⟨_, rfl, ?_, _, rfl, p, _, _, _, rfl, rfl, SqT.of hp, atI_nat (j := 1) rfl, .inl ⟨_, rfl, lenS hm (by decide), _, rfl, ?_, _, rfl, ?_, _, rfl, p, _, _, _, rfl, rfl, SqT.of hp, atI_nat (j := 2) rfl, va, t, rfl, ta, da, by omega, fun H1 s1 => .inl ⟨_, rfl, lenS la (by decide), _, rfl, ?_, ?_⟩⟩⟩
      · show (S [] ++ S (code "set ")).length ≤ sizeLine
        decide +kernel
      · show (S [] ++ S (code "set ") ++ S y).length ≤ sizeLine
        rw [S_app, S_app]
        refine lenS (n := 6000) ?_ (by decide)
        simp only [List.length_append, List.length_cons, List.length_nil]
        omega
      · show (S [] ++ S (code "set ") ++ S y ++ S [32, 61, 32]).length ≤ sizeLine
        rw [S_app, S_app, S_app]
        refine lenS (n := 6000) ?_ (by decide)
        simp only [List.length_append, List.length_cons, List.length_nil]
        omega
      · show (S [] ++ S (code "set ") ++ S y ++ S [32, 61, 32] ++ S (core t)).length ≤ sizeLine
        rw [S_app, S_app, S_app, S_app]
        refine lenS (n := 6000) ?_ (by decide)
        simp only [List.length_append, List.length_cons, List.length_nil]
        omega
      · have e : S [] ++ S (code "set ") ++ S y ++ S [32, 61, 32] ++ S (core t) = S (core (.set y t)) := by
          rw [S_app, S_app, S_app, S_app, core]
          simp only [List.nil_append, List.append_assoc]
        exact e ▸ q _ s1
    | seq a b =>
      have tv0 := tv
      rw [TV] at tv
      obtain ⟨p, va, vb, rfl, hp, _⟩ := tv
      refine ⟨_, rfl, p, _, _, _, rfl, rfl, SqT.of hp, atI_nat (j := 0) rfl, _, rfl, rfl, _, rfl, iteF ⟨_, rfl, rfl, _, rfl, iteF ⟨_, rfl, rfl, _, rfl, iteF ⟨_, rfl, rfl, _, rfl, iteF ⟨_, rfl, rfl, _, rfl, iteF ⟨_, rfl, rfl, _, rfl, iteF ⟨_, rfl, rfl, _, rfl, iteT ?_⟩⟩⟩⟩⟩⟩⟩
      exact ⟨_, rfl, .ref p, a, b, rfl, tv0, dr, hn, q⟩
    | op c a b =>
      have tv0 := tv
      rw [TV] at tv
      obtain ⟨p, va, vb, rfl, hp, _, _, hk⟩ := tv
      simp only [List.mem_cons, List.not_mem_nil, or_false] at hk
      rcases hk with rfl | rfl | rfl | rfl | rfl <;>
      (refine ⟨_, rfl, p, _, _, _, rfl, rfl, SqT.of hp, atI_nat (j := 0) rfl, _, rfl, rfl, _, rfl, iteF ⟨_, rfl, rfl, _, rfl, iteF ⟨_, rfl, rfl, _, rfl, iteF ⟨_, rfl, rfl, _, rfl, iteF ⟨_, rfl, rfl, _, rfl, iteF ⟨_, rfl, rfl, _, rfl, iteF ⟨_, rfl, rfl, _, rfl, iteF ?_⟩⟩⟩⟩⟩⟩⟩
       exact ⟨_, rfl, .ref p, _, a, b, rfl, tv0, dr, hn, q⟩)
/-- write, at every depth -/
theorem ok_write {f f2 f3 f4 f5 : Addr} {fd fd2 fd3 fd4 fd5 : FuncData} (T : Txt K mg) (W : TxW K w mg)
    (F : Fun K "write" "write" sWrite f fd) (m : mg "write" = some (.ref f)) (kp : PySem.W.keepIn K (.ref f) = true) (b : Binds K fd ["tree"] [])
    (F2 : Fun K "write_call" "write_call" sWCall f2 fd2) (m2 : mg "write_call" = some (.ref f2)) (kp2 : PySem.W.keepIn K (.ref f2) = true) (b2 : Binds K fd2 ["tree"] [])
    (F3 : Fun K "write_sequence" "write_sequence" sWSeq f3 fd3) (m3 : mg "write_sequence" = some (.ref f3)) (kp3 : PySem.W.keepIn K (.ref f3) = true) (b3 : Binds K fd3 ["tree"] [])
    (F4 : Fun K "write_signed" "write_signed" sWSigned f4 fd4) (m4 : mg "write_signed" = some (.ref f4)) (kp4 : PySem.W.keepIn K (.ref f4) = true) (b4 : Binds K fd4 ["tree"] [])
    (F5 : Fun K "write_operand" "write_operand" sWOper f5 fd5) (m5 : mg "write_operand" = some (.ref f5)) (kp5 : PySem.W.keepIn K (.ref f5) = true) (b5 : Binds K fd5 ["tree", "least"] []) :
    ∀ n, FO P w K mg base CX0 (1 + 3 * n) "write" ["tree"] (spW n) f fd
  | 0 => ⟨m, kp, b, fun vs H Q E h => by obtain ⟨v, t, rfl, _⟩ := h; rfl, fun A outer s H args us vs Q E hr e b v h => by
      obtain ⟨v, t, rfl, _, dr, _⟩ := h
      exact dr.elim⟩
  | n + 1 => by
    have FW := ok_write T W F m kp b F2 m2 kp2 b2 F3 m3 kp3 b3 F4 m4 kp4 b4 F5 m5 kp5 b5 n
    have O2 := ok_wcall F2 FW
    have O3 := ok_wseq F3 FW
    have O5 := ok_woper F5 W FW
    have O4 := ok_wsigned F4 W ⟨m5, kp5, b5, O5⟩
    exact ⟨m, kp, b, ok_write1 F T FW ⟨m2, kp2, b2, O2⟩ ⟨m3, kp3, b3, O3⟩ ⟨m4, kp4, b4, O4⟩⟩
end
end K3

set_option maxRecDepth 100000
set_option maxHeartbeats 8000000
/-! the law's own: _law_atom, _law_tree -/
namespace K3
open PySem hiding Tok code
open PySem.Spec PyProof.Rows GD K1
open L2 hiding rest
open K2 hiding Sp P
abbrev sAtom : Stmt := topS 42
abbrev sTree : Stmt := topS 43
/-- a list of names -/
structure Nam (H : Hp) (ln : Addr) (ns : List (List Nat)) : Prop where
  at_ : H ln = some (.lst (ns.map fun l => .str (S l)))
  ok : ∀ l ∈ ns, nmB l = true ∧ l.length ≤ 6
  sm : ns.length ≤ 500
/-- a list of names of functions, with how many parameters -/
structure Cal (H : Hp) (lc : Addr) (cs : List (List Nat × Nat)) : Prop where
  ex : ∃ vs, H lc = some (.lst vs) ∧ Paired (fun v (c : List Nat × Nat) => ∃ q, v = .ref q ∧ H q = some (.tup [.str (S c.1), .int (c.2 : Nat)])) vs cs
  ok : ∀ c ∈ cs, nmB c.1 = true ∧ c.1.length ≤ 6 ∧ c.2 ≤ 3
  sm : cs.length ≤ 500
theorem pairImp {α β : Type} {R R' : α → β → Prop} (k : ∀ a b, R a b → R' a b) {l : List α} {m : List β} (h : Paired R l m) : Paired R' l m := by
  induction h with
  | nil => exact .nil
  | cons x _ ih => exact .cons (k _ _ x) ih
section
variable {b d : Addr} {ds : List Int} {H H' : Hp} {n n' : Nat}
theorem box_ne_strs {ns : List (List Nat)} : (HO.lst (ns.map fun l => V.str (S l))) ≠ .lst [.ref d, .int (n : Nat)] := fun e => by
  have e : (ns.map fun l => V.str (S l)) = [.ref d, .int (n : Nat)] := by injection e
  cases ns with
  | nil => cases e
  | cons a r => exact absurd (List.cons.inj e).1 (by intro z; cases z)
theorem Bs.tup (y : Bs b d ds H H' n') (x : Box H b d ds n) : ∀ q xs, H q = some (.tup xs) → H' q = some (.tup xs) := fun q xs e => y.bx _ _ (ne_of e x.1 (by intro z; cases z)) e
theorem Nam.bs {ln : Addr} {ns : List (List Nat)} (h : Nam H ln ns) (x : Box H b d ds n) (y : Bs b d ds H H' n') : Nam H' ln ns :=
  ⟨y.bx _ _ (ne_of h.at_ x.1 box_ne_strs) h.at_, h.ok, h.sm⟩
theorem Cal.bs {lc : Addr} {cs : List (List Nat × Nat)} (h : Cal H lc cs) (x : Box H b d ds n) (y : Bs b d ds H H' n') : Cal H' lc cs := by
  obtain ⟨vs, h1, h2⟩ := h.ex
  refine ⟨⟨vs, y.bx _ _ (ne_of h1 x.1 (fun e => ?_)) h1, pairImp (fun v c ⟨q, e, hq⟩ => ⟨q, e, Bs.tup y x _ _ hq⟩) h2⟩, h.ok, h.sm⟩
  have e : vs = [.ref d, .int (n : Nat)] := by injection e
  subst e
  cases h2 with
  | cons _ h2 =>
    cases h2 with
    | cons h3 _ => obtain ⟨q, e, _⟩ := h3; cases e
theorem TV.bs {t : Tr} {v : V} (h : TV H t v) (x : Box H b d ds n) (y : Bs b d ds H H' n') : TV H' t v := TV.imp (Bs.tup y x) t v h
end
section
variable {P : Program} {w : World} {K : PySem.W.Frag} {mg : Str → Option Value} {base : Heap}
def strM : List (List Nat) := (["", "s", "t", "ab", "x y", "twelve signs"] : List Str).map fun z => z.cps.toList
def numM : List Nat := [0, 1, 2, 7, 12, 3, 1, 0, 5, 99999]
def spAtom : L2.Sp := fun vs H Q _ => ∃ (b d : Addr) (ds : List Int) (n : Nat) (ln : Addr) (ns : List (List Nat)), vs = [.ref b, .ref ln] ∧ Box H b d ds n ∧ Nam H ln ns ∧
  ∀ H' v n' t, Bs b d ds H H' n' → TV H' t v → Dr 0 t → Q v H'
theorem fit_names {ns : List (List Nat)} (h : ∀ l ∈ ns, nmB l = true ∧ l.length ≤ 6) : ∃ B, Fit (.list (ns.map fun l => PyData.str (S l))) 1 B := by
  refine ⟨_, Fit.list (k := 0) (B := 62) fun d hd => ?_⟩
  obtain ⟨l, hl, rfl⟩ := List.mem_map.mp hd
  refine (Fit.strS (n := 6) (h l hl).2 fun c hc => ?_).more (Nat.le_refl _) (by decide)
  have g := (nmB_good (h l hl).1).2.2 c hc
  have : ∀ c ∈ LET, c < 1000 := by decide
  exact this c g
theorem dp_names {H : Hp} {ns : List (List Nat)} : ∀ (l : List (List Nat)), DpAll K H (l.map fun l => V.str (S l)) (l.map fun l => PyData.str (S l))
  | [] => .nil
  | x :: l => .cons (.str _) (dp_names (ns := ns) l)
theorem eqv_nil {ds : List PyData} : PyData.eqv (.list ds) (.list []) = ds.isEmpty := by
  cases ds with
  | nil => simp only [PyData.eqv, PyData.eqvAll]; rfl
  | cons a r => simp only [PyData.eqv, PyData.eqvAll]; rfl
theorem fit_nil : Fit (.list []) 1 4 := Fit.list (k := 0) (B := 0) (ds := []) (fun d hd => by cases hd)
theorem scLAtom : FnScope ["box", "names", "kind"] ["box", "names"] (defScope sAtom) := ⟨rfl, rfl, rfl, by decide +kernel, rfl, by decide +kernel, by decide +kernel⟩
theorem ok_latom {f f1 : Addr} {fd fd1 : FuncData} (F : Fun K "_law_atom" "_law_atom" sAtom f fd) (T : Txt K mg) (FD : FO P w K mg base CX0 1 "_law_draw" ["box", "many"] spDraw f1 fd1) :
    FnOk P w K mg base CX0 2 f fd ["box", "names"] spAtom := by
  have sc := scLAtom
  refine F.ok sc (fun vs H Q E h => ?_) (fun cdv A outer s H vs Q E hr h => ?_)
  · obtain ⟨b, d, ds, n, ln, ns, rfl, _⟩ := h
    rfl
  · obtain ⟨b, d, ds, n, ln, ns, rfl, hB, hN, q⟩ := h
    refine ⟨_, pss_cons (ps_set (i := 2) sc.nd rfl (.inl rfl) (pe_call FD.ok hr (by rfl) FD.m FD.kp FD.b .nil pass0 (pa_cons (pv 0) (pa_cons pe_int pa_nil))))
      (pss_cons (ps_if (PW.pt (pw_and (pt_cmpR op_le (pv 2) pe_int (nomark _)) (pw_and1 (pt_cmpR (op_neD hr.units) (pv 1) (pe_lst pa_nil) (nomark _)))))
        (pss_one (ps_ret (pe_tup (pa_cons pe_str (pa_cons (pe_ix ix_list (pv 1) (pe_call FD.ok hr (by rfl) FD.m FD.kp FD.b .nil pass0 (pa_cons (pv 0) (pa_cons (pe_callB call_len_seq (by rfl) T.len (by decide +kernel) (pa_cons (pv 1) pa_nil)) pa_nil))) (fun _ _ => rfl)) pa_nil))))) pss_nil)
      (pss_cons (ps_if (pt_cmpR op_eq (pv 2) pe_int (nomark _))
        (pss_one (ps_ret (pe_tup (pa_cons pe_str (pa_cons (pe_ix ix_list (pe_lst (pa_cons pe_str (pa_cons pe_str (pa_cons pe_str (pa_cons pe_str (pa_cons pe_str (pa_cons pe_str pa_nil))))))) (pe_call FD.ok hr (by rfl) FD.m FD.kp FD.b .nil pass0 (pa_cons (pv 0) (pa_cons pe_int pa_nil))) (fun _ _ => rfl)) pa_nil))))) pss_nil)
      (pss_one (ps_ret (pe_tup (pa_cons pe_str (pa_cons (pe_ix ix_list (pe_lst (pa_cons pe_int (pa_cons pe_int (pa_cons pe_int (pa_cons pe_int (pa_cons pe_int (pa_cons pe_int (pa_cons pe_int (pa_cons pe_int (pa_cons pe_int (pa_cons pe_int pa_nil)))))))))))
        (pe_call FD.ok hr (by rfl) FD.m FD.kp FD.b .nil pass0 (pa_cons (pv 0) (pa_cons pe_int pa_nil))) (fun _ _ => rfl)) pa_nil))))))), ?_⟩
    refine ⟨_, rfl, b, d, ds, n, 20, rfl, hB, by decide, fun r h0 h1 => ?_⟩
    have s1 := (Bs.refl hB).draw
    have N1 := hN.bs hB s1
    refine ⟨_, rfl, _, _, rfl, rfl, _, rfl, ite2 (fun h => ?names) (fun h => iteF ⟨_, rfl, rfl, _, rfl, ?g1⟩)⟩
    case' g1 => have sx := s1
    case' names =>
      refine ⟨_, rfl, Nat.zero_le _, fun l nl => ?_⟩
      have s2 := s1.new (o := .lst []) nl
      have N2 := N1.bs s1.box ((Bs.refl s1.box).new (o := .lst []) nl)
      obtain ⟨B, fit⟩ := fit_names hN.ok
      refine ⟨_, _, .lst (SqL.of N2.at_) (dp_names (ns := ns) ns), .lst (SqL.of upd_same) .nil, fit.shaped (by decide), fit_nil.shaped (by decide), _, rfl, ?_⟩
      rw [eqv_nil]
      rcases ns with _ | ⟨x, r⟩
      rotate_left
      · refine iteT ?_
        refine ⟨_, rfl, _, rfl, _, rfl, ln, _, rfl, .inl (SqL.of N2.at_), b, d, ds, n + 1, _, rfl, s2.box, ?_, fun r3 h4 h5 => ?_⟩
        · rw [List.length_map, List.length_cons]; omega
        have s3 := s2.draw
        rw [List.length_map] at h5
        obtain ⟨j, rfl, hj⟩ := idx h4 h5
        obtain ⟨z, ez⟩ : ∃ z, (x :: r)[j]? = some z := ⟨_, List.getElem?_eq_getElem hj⟩
        have N3 := N2.bs s2.box (Bs.draw (Bs.refl s2.box))
        refine ⟨ln, _, _, .str (S z), rfl, rfl, SqL.of N3.at_, atI_nat (by rw [List.getElem?_map, ez]; rfl), two_le, fun p np => ?_⟩
        refine q _ _ _ (.name z) (s3.new np) ?_ ?_
        · rw [TV]; exact ⟨p, rfl, upd_same⟩
        · have g := hN.ok z (List.mem_of_getElem? ez)
          exact .name g.1 g.2
      refine iteF ⟨_, rfl, rfl, _, rfl, ?_⟩
      have sx := s2
    all_goals (refine ite2 (fun h => ?_) (fun h => ?_))
    all_goals try (
      refine ⟨by show 6 ≤ sizeLine; decide, fun l nl => ?_⟩
      have s2 := sx.new (o := .lst (strM.map fun z => V.str (S z))) nl
      refine ⟨_, rfl, b, d, ds, _, 6, rfl, s2.box, by decide, fun r3 h4 h5 => ?_⟩
      have s3 := s2.draw
      obtain ⟨j, rfl, hj⟩ := idx (m := 6) h4 h5
      obtain ⟨z, ez⟩ : ∃ z, strM[j]? = some z := ⟨_, List.getElem?_eq_getElem hj⟩
      refine ⟨l, _, _, .str (S z), rfl, rfl, SqL.of (xs := strM.map fun z => V.str (S z)) (by rw [upd_ne (sx.nb nl), upd_same]; exact congrArg (fun l => some (HO.lst l)) (by decide +kernel)), atI_nat (by rw [List.getElem?_map, ez]; rfl), two_le, fun p np => ?_⟩
      refine q _ _ _ (.str z) (s3.new np) (by rw [TV]; exact ⟨p, rfl, upd_same⟩) ?_
      have : ∀ z ∈ strM, z.length ≤ 12 ∧ ∀ c ∈ z, mayB c = true := by decide +kernel
      have g := this z (List.mem_of_getElem? ez)
      exact .str g.1 g.2)
    all_goals (
      refine ⟨by show 10 ≤ sizeLine; decide, fun l nl => ?_⟩
      have s2 := sx.new (o := .lst (numM.map fun z => V.int (z : Nat))) nl
      refine ⟨_, rfl, b, d, ds, _, 10, rfl, s2.box, by decide, fun r3 h4 h5 => ?_⟩
      have s3 := s2.draw
      obtain ⟨j, rfl, hj⟩ := idx (m := 10) h4 h5
      obtain ⟨z, ez⟩ : ∃ z, numM[j]? = some z := ⟨_, List.getElem?_eq_getElem hj⟩
      refine ⟨l, _, _, .int (z : Nat), rfl, rfl, SqL.of (xs := numM.map fun z => V.int (z : Nat)) (by rw [upd_ne (sx.nb nl), upd_same]; exact congrArg (fun l => some (HO.lst l)) (by decide +kernel)), atI_nat (by rw [List.getElem?_map, ez]; rfl), two_le, fun p np => ?_⟩
      refine q _ _ _ (.num z) (s3.new np) (by rw [TV]; exact ⟨p, rfl, upd_same⟩) ?_
      have : ∀ z ∈ numM, z ≤ 99999 := by decide
      exact .num (this z (List.mem_of_getElem? ez)))
end
end K3

set_option maxRecDepth 100000
set_option maxHeartbeats 8000000
/-! the law's own: _law_tree -/
namespace K3
open PySem hiding Tok code
open PySem.Spec PyProof.Rows GD K1
open L2 hiding rest
open K2 hiding Sp P
section
variable {P : Program} {w : World} {K : PySem.W.Frag} {mg : Str → Option Value} {base : Heap}
def spTr (n : Nat) : L2.Sp := fun vs H Q _ => ∃ (b d : Addr) (ds : List Int) (m : Nat) (ln lc : Addr) (ns : List (List Nat)) (cs : List (List Nat × Nat)) (dep : Nat), vs = [.ref b, .ref ln, .ref lc, .int (dep : Nat)] ∧ Box H b d ds m ∧ Nam H ln ns ∧ Cal H lc cs ∧ dep < n ∧
  ∀ H' v m' t, Bs b d ds H H' m' → TV H' t v → Dr dep t → Q v H'
/-- more names of the top that are the built-ins' -/
structure Txt2 (mg : Str → Option Value) : Prop where
  btuple : mg "tuple" = none
  max : mg "max" = none
theorem argT (b ln lc : Addr) (e : Nat) : [V.ref b, V.ref ln, V.ref lc, V.int (((e + 1 : Nat) : Int) - 1)] = [V.ref b, V.ref ln, V.ref lc, V.int (e : Nat)] := by
  rw [show ((e + 1 : Nat) : Int) - 1 = (e : Nat) by omega]
theorem fit_calls {H : Hp} {vs : List V} {cs : List (List Nat × Nat)} (h : Paired (fun v (c : List Nat × Nat) => ∃ q, v = .ref q ∧ H q = some (.tup [.str (S c.1), .int (c.2 : Nat)])) vs cs)
    (ok : ∀ c ∈ cs, nmB c.1 = true ∧ c.1.length ≤ 6 ∧ c.2 ≤ 3) : ∃ ds B, DpAll K H vs ds ∧ ds.isEmpty = cs.isEmpty ∧ Fit (.list ds) 2 B := by
  suffices h2 : ∃ ds, DpAll K H vs ds ∧ ds.isEmpty = cs.isEmpty ∧ ∀ x ∈ ds, Fit x 1 (2 * 64 + 4) by
    obtain ⟨ds, h1, h2, h3⟩ := h2
    exact ⟨ds, _, h1, h2, Fit.list h3⟩
  induction h with
  | nil => exact ⟨[], .nil, rfl, fun x hx => by cases hx⟩
  | @cons v c vs cs r _ ih =>
    obtain ⟨ds, h1, _, h3⟩ := ih fun x hx => ok x (List.mem_cons_of_mem _ hx)
    obtain ⟨q, rfl, hq⟩ := r
    obtain ⟨o1, o2, o3⟩ := ok c List.mem_cons_self
    refine ⟨.tuple [.str (S c.1), .int (c.2 : Nat)] :: ds, .cons (.tup (SqT.of hq) (.cons (.str _) (.cons (.int _) .nil))) h1, rfl, fun x hx => ?_⟩
    rcases List.mem_cons.mp hx with rfl | hx
    · refine Fit.tup (B := 62) fun y hy => ?_
      simp only [List.mem_cons, List.not_mem_nil, or_false] at hy
      rcases hy with rfl | rfl
      · refine (Fit.strS (n := 6) o2 fun c' hc => ?_).more (Nat.le_refl _) (by decide)
        have g := (nmB_good o1).2.2 c' hc
        have : ∀ c ∈ LET, c < 1000 := by decide
        exact this c' g
      · exact (Fit.num (by omega)).more (Nat.le_refl _) (by decide)
    · exact h3 x hx
theorem _root_.K1.Bs.wr {b d D : Addr} {ds : List Int} {H H' : Hp} {n n0 : Nat} {o : HO} (h : Bs b d ds H H' n) (x : Box H b d ds n0) (nD : H D = none) : Bs b d ds H (upd H' D o) n := by
  have nb : b ≠ D := ne_of_none x.1 nD
  have nd : d ≠ D := ne_of_none x.2.1 nD
  refine ⟨fun c u nc hc => ?_, ⟨by rw [upd_ne nb]; exact h.box.1, by rw [upd_ne nd]; exact h.box.2.1, h.box.2.2⟩, fun c hc => ?_⟩
  · rw [upd_ne (ne_of_none hc nD)]
    exact h.bx c u nc hc
  · by_cases e : c = D
    · rw [e]; exact nD
    · rw [upd_ne e] at hc
      exact h.free c hc
theorem pairGet {α β : Type} {R : α → β → Prop} {l : List α} {m : List β} (h : Paired R l m) : ∀ {i : Nat} {y : β}, m[i]? = some y → ∃ x, l[i]? = some x ∧ R x y := by
  induction h with
  | nil => intro i y h; cases h
  | @cons a b l m r _ ih =>
    intro i y h
    cases i with
    | zero => cases h; exact ⟨a, rfl, r⟩
    | succ i => exact ih h
def sgnM : List Nat := [43, 45, 42, 60, 61, 43]
theorem scTree : FnScope ["box", "names", "calls", "depth", "kind", "first", "second", "plain", "name", "many", "k"] ["box", "names", "calls", "depth"] (defScope sTree) := ⟨rfl, rfl, rfl, by decide +kernel, rfl, by decide +kernel, by decide +kernel⟩
theorem ok_tree1 {n : Nat} {f f1 f2 : Addr} {fd fd1 fd2 : FuncData} (F : Fun K "_law_tree" "_law_tree" sTree f fd) (T : Txt K mg) (T2 : Txt2 mg) (FD : FO P w K mg base CX0 1 "_law_draw" ["box", "many"] spDraw f1 fd1)
    (FA : FO P w K mg base CX0 2 "_law_atom" ["box", "names"] spAtom f2 fd2) (m : mg "_law_tree" = some (.ref f)) (kp : PySem.W.keepIn K (.ref f) = true) (bi : Binds K fd ["box", "names", "calls", "depth"] [])
    (FT : FnOk P w K mg base CX0 (2 + n) f fd ["box", "names", "calls", "depth"] (spTr n)) :
    FnOk P w K mg base CX0 (2 + n + 1) f fd ["box", "names", "calls", "depth"] (spTr (n + 1)) := by
  have sc := scTree
  refine F.ok sc (fun vs H Q E h => ?_) (fun cdv A outer s H vs Q E hr h => ?_)
  · obtain ⟨b, d, ds, m, ln, lc, ns, cs, dep, rfl, _⟩ := h
    rfl
  · obtain ⟨b, d, ds, m0, ln, lc, ns, cs, dep, rfl, hB, hN, hC, hd, q⟩ := h
    have hr1 : Room 1 _ := hr.mono (by omega)
    have hr2 : Room 2 _ := hr.mono (by omega)
    refine ⟨_, (pss_cons (ps_set (i := 4) sc.nd rfl (Or.inl rfl) (pe_call FD.ok hr1 (by rfl) FD.m FD.kp FD.b .nil pass0 (pa_cons (pv 0) (pa_cons pe_int pa_nil))))
      (pss_cons (ps_if (PW.pt (pw_or (pt_cmpR op_le (pv 3) pe_int (nomark _)) (pw_or1 (pt_cmpR op_le (pv 4) pe_int (nomark _)))))
      (pss_one (ps_ret (pe_call FA.ok hr2 (by rfl) FA.m FA.kp FA.b .nil pass0 (pa_cons (pv 0) (pa_cons (pv 1) pa_nil)))))
      pss_nil)
      (pss_cons (ps_if (pt_cmpR op_le (pv 4) pe_int (nomark _))
      (pss_cons (ps_set (i := 5) sc.nd rfl (Or.inl rfl) (pe_call FT hr (by rfl) m kp bi .nil pass0 (pa_cons (pv 0) (pa_cons (pv 1) (pa_cons (pv 2) (pa_cons (pe_op op_sub (pv 3) pe_int) pa_nil))))))
      (pss_one (ps_ret (pe_tup (pa_cons (pe_ix ix_list (pe_lst (pa_cons pe_str (pa_cons pe_str (pa_cons pe_str (pa_cons pe_str (pa_cons pe_str (pa_cons pe_str pa_nil))))))) (pe_call FD.ok hr1 (by rfl) FD.m FD.kp FD.b .nil pass0 (pa_cons (pv 0) (pa_cons pe_int pa_nil))) (fun _ _ => rfl)) (pa_cons (pv 5) (pa_cons (pe_call FT hr (by rfl) m kp bi .nil pass0 (pa_cons (pv 0) (pa_cons (pv 1) (pa_cons (pv 2) (pa_cons (pe_op op_sub (pv 3) pe_int) pa_nil))))) pa_nil)))))))
      pss_nil)
      (pss_cons (ps_if (pt_cmpR op_eq (pv 4) pe_int (nomark _))
      (pss_cons (ps_set (i := 5) sc.nd rfl (Or.inl rfl) (pe_call FT hr (by rfl) m kp bi .nil pass0 (pa_cons (pv 0) (pa_cons (pv 1) (pa_cons (pv 2) (pa_cons (pe_op op_sub (pv 3) pe_int) pa_nil))))))
      (pss_cons (ps_set (i := 6) sc.nd rfl (Or.inl rfl) (pe_call FT hr (by rfl) m kp bi .nil pass0 (pa_cons (pv 0) (pa_cons (pv 1) (pa_cons (pv 2) (pa_cons (pe_op op_sub (pv 3) pe_int) pa_nil))))))
      (pss_one (ps_ret (pe_tup (pa_cons pe_str (pa_cons (pv 5) (pa_cons (pv 6) (pa_cons (pe_call FT hr (by rfl) m kp bi .nil pass0 (pa_cons (pv 0) (pa_cons (pv 1) (pa_cons (pv 2) (pa_cons (pe_op op_sub (pv 3) pe_int) pa_nil))))) pa_nil)))))))))
      pss_nil)
      (pss_cons (ps_setLc (i := 7) (own := [("name", 8)]) rfl sc.nd rfl rfl (sw_true rfl rfl rfl (by decide +kernel)) (pi_list (pv 1)) (blkOk_by (own := [("name", 8)]) (N := ["box", "names", "calls", "depth", "kind", "first", "second", "plain", "name", "many", "k"]) (sc := defScope sTree) (by decide +kernel)) (fun _ _ _ _ _ => (pg_name (i := 8) sc.nd rfl (Or.inl rfl))) (fun _ _ _ _ _ => (pts_one (pt_cmpR (show OpR _ _ (rIn K true) from op_notIn_seq) (pv 8) (pe_tup (pa_cons pe_str (pa_cons pe_str pa_nil))) rfl))) (fun _ _ _ _ _ => (pv 8)))
      (pss_cons (ps_if (PW.pt (pw_and (pt_cmpR op_eq (pv 4) pe_int (nomark _)) (pw_and1 (pt_cmpR (op_neD hr.units) (pv 7) (pe_lst pa_nil) (nomark _)))))
      (pss_one (ps_ret (pe_tup (pa_cons pe_str (pa_cons (pe_ix ix_list (pv 7) (pe_call FD.ok hr1 (by rfl) FD.m FD.kp FD.b .nil pass0 (pa_cons (pv 0) (pa_cons (pe_callB call_len_seq (by rfl) T.len (by decide +kernel) (pa_cons (pv 7) pa_nil)) pa_nil))) (fun _ _ => rfl)) (pa_cons (pe_call FT hr (by rfl) m kp bi .nil pass0 (pa_cons (pv 0) (pa_cons (pv 1) (pa_cons (pv 2) (pa_cons (pe_op op_sub (pv 3) pe_int) pa_nil))))) pa_nil))))))
      pss_nil)
      (pss_cons (ps_if (pt_cmpR op_eq (pv 4) pe_int (nomark _))
      (pss_cons (ps_set (i := 5) sc.nd rfl (Or.inl rfl) (pe_call FT hr (by rfl) m kp bi .nil pass0 (pa_cons (pv 0) (pa_cons (pv 1) (pa_cons (pv 2) (pa_cons (pe_op op_sub (pv 3) pe_int) pa_nil))))))
      (pss_one (ps_ret (pe_tup (pa_cons pe_str (pa_cons (pv 5) (pa_cons (pe_call FT hr (by rfl) m kp bi .nil pass0 (pa_cons (pv 0) (pa_cons (pv 1) (pa_cons (pv 2) (pa_cons (pe_op op_sub (pv 3) pe_int) pa_nil))))) pa_nil)))))))
      pss_nil)
      (pss_cons (ps_if (pt_cmpR (op_eqD hr.units) (pv 2) (pe_lst pa_nil) (nomark _))
      (pss_one (ps_ret (pe_call FA.ok hr2 (by rfl) FA.m FA.kp FA.b .nil pass0 (pa_cons (pv 0) (pa_cons (pv 1) pa_nil)))))
      pss_nil)
      (pss_cons (ps_asg (pe_ix ix_list (pv 2) (pe_call FD.ok hr1 (by rfl) FD.m FD.kp FD.b .nil pass0 (pa_cons (pv 0) (pa_cons (pe_callB call_len_seq (by rfl) T.len (by decide +kernel) (pa_cons (pv 2) pa_nil)) pa_nil))) (fun _ _ => rfl)) (pg_tup rfl (pgs_cons (pg_name (i := 8) sc.nd rfl (Or.inl rfl)) (pgs_cons (pg_name (i := 9) sc.nd rfl (Or.inl rfl)) pgs_nil))))
      (pss_one (ps_ret (pe_tup (pa_cons pe_str (pa_cons (pv 8) (pa_cons (pe_callTy call_tuple_of (by rfl) T2.btuple (by decide +kernel) (pa_cons (pe_lc (own := [("k", 10)]) rfl sc.nd (pi_range1 rfl T.range (pa_cons (pv 9) pa_nil)) (blkOk_by (own := [("k", 10)]) (N := ["box", "names", "calls", "depth", "kind", "first", "second", "plain", "name", "many", "k"]) (sc := defScope sTree) (by decide +kernel)) (fun _ _ _ _ _ => (pg_name (i := 10) sc.nd rfl (Or.inl rfl))) (fun _ _ _ _ _ => pts_nil) (fun _ _ _ _ _ => (pe_call FT hr (by rfl) m kp bi .nil pass0 (pa_cons (pv 0) (pa_cons (pv 1) (pa_cons (pv 2) (pa_cons (pe_op op_sub (pv 3) pe_int) pa_nil))))))) pa_nil)) pa_nil))))))))))))))), ?_⟩
    refine ⟨_, rfl, b, d, ds, m0, 14, rfl, hB, by decide, fun r h0 h1 => ?_⟩
    have s1 := (Bs.refl hB).draw
    have N1 := hN.bs hB s1
    have C1 := hC.bs hB s1
    refine ⟨_, rfl, _, _, rfl, rfl, _, rfl, ite2 (fun h => ?_) (fun hdep => ⟨_, rfl, _, _, rfl, rfl, _, rfl, ite2 (fun h => ?_) (fun hk4 => ?_)⟩)⟩
    iterate 2 (· exact ⟨_, rfl, _, rfl, b, d, ds, _, ln, ns, rfl, s1.box, N1, fun H' v n' t y tv dr => q H' v n' t (s1.trans y) tv (dr.more (Nat.zero_le _))⟩)
    obtain ⟨e, rfl⟩ : ∃ e, dep = e + 1 := ⟨dep - 1, by have : ¬ ((dep : Int) ≤ 0) := fun z => hdep (decide_eq_true z); omega⟩
    have he : e < n := by omega
    refine ⟨_, rfl, _, _, rfl, rfl, _, rfl, ite2 (fun h => ?_) (fun hk8 => ?_)⟩
    · -- a sign
      refine ⟨_, rfl, _, rfl, _, rfl, _, rfl, _, _, rfl, rfl, b, d, ds, _, ln, lc, ns, cs, e, argT b ln lc e, s1.box, N1, C1, he, fun H2 v2 m2 t2 y2 tv2 dr2 => ?_⟩
      refine ⟨by show 6 ≤ sizeLine; decide, fun l nl => ?_⟩
      have sA := (Bs.refl y2.box).new (o := .lst (sgnM.map fun z => V.str (S [z]))) nl
      refine ⟨_, rfl, b, d, ds, _, 6, rfl, sA.box, by decide, fun r3 h4 h5 => ?_⟩
      have sB := sA.draw
      have s2 := (s1.trans y2).trans sB
      obtain ⟨j, rfl, hj⟩ := idx (m := 6) h4 h5
      obtain ⟨z, ez⟩ : ∃ z, sgnM[j]? = some z := ⟨_, List.getElem?_eq_getElem hj⟩
      refine ⟨l, _, _, .str (S [z]), rfl, rfl, SqL.of (xs := sgnM.map fun z => V.str (S [z])) (by rw [upd_ne (y2.nb nl), upd_same]; exact congrArg (fun l => some (HO.lst l)) (by decide +kernel)), atI_nat (by rw [List.getElem?_map, ez]; rfl), ?_⟩
      refine ⟨_, rfl, _, rfl, _, rfl, _, rfl, _, rfl, _, _, rfl, rfl, b, d, ds, _, ln, lc, ns, cs, e, argT b ln lc e, s2.box, hN.bs hB s2, hC.bs hB s2, he, fun H3 v3 m3 t3 y3 tv3 dr3 => ⟨three_le, fun p np => ?_⟩⟩
      have hz : z ∈ [42, 43, 45, 60, 61] := by
        have : ∀ z ∈ sgnM, z ∈ [42, 43, 45, 60, 61] := by decide
        exact this z (List.mem_of_getElem? ez)
      refine q _ _ _ (.op z t2 t3) ((s2.trans y3).new np) ?_ (.op hz dr2 dr3)
      rw [TV]
      exact ⟨p, v2, v3, rfl, upd_same, TV.imp (newtup np) t2 v2 (tv2.bs y2.box (sB.trans y3)), TV.imp (newtup np) t3 v3 tv3, hz⟩
    refine ⟨_, rfl, rfl, _, rfl, ite2 (fun h => ?_) (fun hk9 => ?_)⟩
    · -- an if
      refine ⟨_, rfl, _, rfl, _, rfl, _, rfl, _, _, rfl, rfl, b, d, ds, _, ln, lc, ns, cs, e, argT b ln lc e, s1.box, N1, C1, he, fun H2 v2 m2 t2 y2 tv2 dr2 => ?_⟩
      have s2 := s1.trans y2
      refine ⟨_, rfl, _, rfl, _, rfl, _, rfl, _, _, rfl, rfl, b, d, ds, _, ln, lc, ns, cs, e, argT b ln lc e, s2.box, hN.bs hB s2, hC.bs hB s2, he, fun H3 v3 m3 t3 y3 tv3 dr3 => ?_⟩
      have s3 := s2.trans y3
      refine ⟨_, rfl, _, rfl, _, rfl, _, rfl, _, rfl, _, rfl, _, _, rfl, rfl, b, d, ds, _, ln, lc, ns, cs, e, argT b ln lc e, s3.box, hN.bs hB s3, hC.bs hB s3, he, fun H4 v4 m4 t4 y4 tv4 dr4 => ⟨by show 4 ≤ sizeLine; decide, fun p np => ?_⟩⟩
      refine q _ _ _ (.ite t2 t3 t4) ((s3.trans y4).new np) ?_ (.ite dr2 dr3 dr4)
      rw [TV]
      exact ⟨p, v2, v3, v4, rfl, upd_same, TV.imp (newtup np) t2 v2 (tv2.bs y2.box (y3.trans y4)), TV.imp (newtup np) t3 v3 (tv3.bs y3.box y4), TV.imp (newtup np) t4 v4 tv4⟩
    refine ⟨_, rfl, ln, rfl, ⟨_, SqL.of N1.at_⟩, fun D nD => ?_⟩
    have nDb : D ≠ b := s1.nb nD
    refine lc_list (K := K) (a := ln) (xs := ns.map fun l => V.str (S l)) (fun i H' => ∃ pl : List (List Nat), H' D = some (.lst (pl.map fun l => V.str (S l))) ∧ (∀ l ∈ pl, l ∈ ns) ∧ pl.length ≤ i ∧ Bs b d ds H H' (m0 + 1))
      ⟨[], upd_same, fun l hl => (by cases hl), Nat.le_refl _, s1.new nD⟩ (fun i H' _ ⟨pl, _, _, _, sx⟩ => SqL.of (hN.bs hB sx).at_) (fun i x H' hx ⟨pl, eD, hm, hl, sx⟩ => ?_) (fun H' ⟨pl, eD, hm, hl, sx⟩ => ?_)
    · obtain ⟨z, ez, rfl⟩ : ∃ z, ns[i]? = some z ∧ x = .str (S z) := by
        rw [List.getElem?_map] at hx
        obtain ⟨z, h1, h2⟩ := Option.map_eq_some_iff.mp hx
        exact ⟨z, h1, h2.symm⟩
      refine ⟨rfl, _, rfl, two_le, fun u nu => ⟨u, _, rfl, .inr (SqT.of upd_same), rfl, rfl, _, rfl, ?_⟩⟩
      have eD2 : upd H' u (.tup [.str "p", .str "q"]) D = some (.lst (pl.map fun l => V.str (S l))) := by rw [upd_ne (ne_of_none eD nu)]; exact eD
      have sy := sx.new (o := .tup [.str "p", .str "q"]) nu
      refine ite2 (fun _ => ?_) (fun _ => ?_)
      · have li : i < ns.length := (List.getElem?_eq_some_iff.mp ez).1
        have sm := hN.sm
        refine ⟨_, rfl, _, eD2, ?_, pl ++ [z], ?_, fun l hl => ?_, ?_, sy.wr hB (s1.free D nD)⟩
        · rw [List.length_map]; exact Nat.lt_of_le_of_lt (show pl.length ≤ 500 by omega) (by decide)
        · rw [upd_same, List.map_append]; rfl
        · rcases List.mem_append.mp hl with hl | hl
          · exact hm l hl
          · rw [List.mem_singleton.mp hl]; exact List.mem_of_getElem? ez
        · rw [List.length_append, List.length_singleton]; omega
      · exact ⟨pl, eD2, hm, by omega, sy⟩
    have nsm := hN.sm
    rw [List.length_map] at hl
    have PL : Nam H' D pl := ⟨eD, fun l h => hN.ok l (hm l h), by omega⟩
    refine ⟨_, rfl, rfl, _, rfl, ite2 (fun h => ?names) (fun h => iteF ⟨_, rfl, rfl, _, rfl, ?g1⟩)⟩
    case' g1 => have sz := sx
    case' names =>
      refine ⟨_, rfl, Nat.zero_le _, fun l nl => ?_⟩
      have s2 := sx.new (o := .lst []) nl
      have y2 := (Bs.refl sx.box).new (o := .lst []) nl
      have P2 := PL.bs sx.box y2
      obtain ⟨B, fit⟩ := fit_names PL.ok
      refine ⟨_, _, .lst (SqL.of P2.at_) (dp_names (ns := pl) pl), .lst (SqL.of upd_same) .nil, fit.shaped (by decide), fit_nil.shaped (by decide), _, rfl, ?_⟩
      rw [eqv_nil]
      rcases pl with _ | ⟨x, r9⟩
      rotate_left
      · refine iteT ?_
        refine ⟨_, rfl, _, rfl, _, rfl, D, _, rfl, .inl (SqL.of P2.at_), b, d, ds, _, _, rfl, s2.box, ?_, fun r3 h4 h5 => ?_⟩
        · rw [List.length_map, List.length_cons]; omega
        have s3 := s2.draw
        rw [List.length_map] at h5
        obtain ⟨j, rfl, hj⟩ := idx h4 h5
        obtain ⟨z, ez⟩ : ∃ z, (x :: r9)[j]? = some z := ⟨_, List.getElem?_eq_getElem hj⟩
        have P3 := P2.bs s2.box (Bs.draw (Bs.refl s2.box))
        refine ⟨D, _, _, .str (S z), rfl, rfl, SqL.of P3.at_, atI_nat (by rw [List.getElem?_map, ez]; rfl), ?_⟩
        refine ⟨_, rfl, _, rfl, _, rfl, _, rfl, _, _, rfl, rfl, b, d, ds, _, ln, lc, ns, cs, e, argT b ln lc e, s3.box, hN.bs hB s3, hC.bs hB s3, he, fun H3 v3 m3 t3 y3 tv3 dr3 => ⟨three_le, fun p np => ?_⟩⟩
        have g := PL.ok z (List.mem_of_getElem? ez)
        refine q _ _ _ (.set z t3) ((s3.trans y3).new np) ?_ (.set g.1 g.2 dr3)
        rw [TV]
        exact ⟨p, v3, rfl, upd_same, TV.imp (newtup np) t3 v3 tv3⟩
      refine iteF ⟨_, rfl, rfl, _, rfl, ?_⟩
      have sz := s2
    all_goals (
      have Nz := hN.bs hB sz
      have Cz := hC.bs hB sz
      refine ite2 (fun h => ?_) (fun h => ?_))
    all_goals try (
      refine ⟨_, rfl, _, rfl, _, rfl, _, rfl, _, _, rfl, rfl, b, d, ds, _, ln, lc, ns, cs, e, argT b ln lc e, sz.box, Nz, Cz, he, fun H2 v2 m2 t2 y2 tv2 dr2 => ?_⟩
      have s2 := sz.trans y2
      refine ⟨_, rfl, _, rfl, _, rfl, _, rfl, _, rfl, _, _, rfl, rfl, b, d, ds, _, ln, lc, ns, cs, e, argT b ln lc e, s2.box, hN.bs hB s2, hC.bs hB s2, he, fun H3 v3 m3 t3 y3 tv3 dr3 => ⟨three_le, fun p np => ?_⟩⟩
      refine q _ _ _ (.seq t2 t3) ((s2.trans y3).new np) ?_ (.seq dr2 dr3)
      rw [TV]
      exact ⟨p, v2, v3, rfl, upd_same, TV.imp (newtup np) t2 v2 (tv2.bs y2.box y3), TV.imp (newtup np) t3 v3 tv3⟩)
    all_goals (
      refine ⟨_, rfl, Nat.zero_le _, fun l nl => ?_⟩
      have s2 := sz.new (o := .lst []) nl
      have y2 := (Bs.refl sz.box).new (o := .lst []) nl
      have C2 := Cz.bs sz.box y2
      have N2 := Nz.bs sz.box y2
      obtain ⟨vs, c1, c2⟩ := C2.ex
      obtain ⟨dd, B, d1, d2, fit⟩ := fit_calls (K := K) c2 C2.ok
      refine ⟨_, _, .lst (SqL.of c1) d1, .lst (SqL.of upd_same) .nil, fit.shaped (by decide), fit_nil.shaped (by decide), _, rfl, ?_⟩
      rw [eqv_nil, d2]
      rcases cs with _ | ⟨c, cr⟩
      · exact iteT ⟨_, rfl, _, rfl, b, d, ds, _, ln, ns, rfl, s2.box, N2, fun H' v n' t y tv dr => q H' v n' t (s2.trans y) tv (dr.more (Nat.zero_le _))⟩
      refine iteF ?_
      have vl : vs.length = (c :: cr).length := Paired.length c2
      refine ⟨_, rfl, _, rfl, _, rfl, lc, _, rfl, .inl (SqL.of c1), b, d, ds, _, _, rfl, s2.box, ?_, fun r3 h4 h5 => ?_⟩
      · rw [vl, List.length_cons]; omega
      have s3 := s2.draw
      rw [vl] at h5
      obtain ⟨j, rfl, hj⟩ := idx h4 h5
      obtain ⟨z, ez⟩ : ∃ z, (c :: cr)[j]? = some z := ⟨_, List.getElem?_eq_getElem hj⟩
      have C3 := C2.bs s2.box (Bs.draw (Bs.refl s2.box))
      obtain ⟨vs3, k1, k2⟩ := C3.ex
      obtain ⟨v9, e9, q9, rfl, h9⟩ := pairGet k2 ez
      obtain ⟨g1, g2, g3⟩ := C2.ok z (List.mem_of_getElem? ez)
      refine ⟨lc, _, _, _, rfl, rfl, SqL.of k1, atI_nat e9, q9, _, rfl, SqT.of h9, rfl, _, _, rfl, _, _, rfl, rfl, ?_⟩
      refine ⟨_, rfl, _, rfl, _, rfl, by omega, by omega, fun D2 nD2 => ?_⟩
      have s4 := s3.new (o := .lst []) nD2
      refine lc_range (lo := 0) (n := ((z.2 : Nat) : Int).toNat) (fun i H' => ∃ (ws : List V) (ts : List Tr) (n' : Nat), Bs b d ds H H' n' ∧ H' D2 = some (.lst ws) ∧ TVs H' ts ws ∧ (∀ t ∈ ts, Dr e t) ∧ ts.length = i)
        ⟨[], [], _, s4, upd_same, (by rw [TVs]), (fun t ht => by cases ht), rfl⟩ (fun i H' hi ⟨ws, ts, n', s5, eD, tvs, dr, ln5⟩ => ?_) (fun H' ⟨ws, ts, n', s5, eD, tvs, dr, ln5⟩ => ?_)
      · refine ⟨rfl, _, rfl, _, rfl, _, rfl, _, rfl, _, _, rfl, rfl, b, d, ds, _, ln, lc, ns, _ :: _, e, argT b ln lc e, s5.box, hN.bs hB s5, hC.bs hB s5, he, fun H3 v3 m3 t3 y3 tv3 dr3 => ?_⟩
        have e3 : H3 D2 = some (.lst ws) := y3.bx _ _ (s3.nb nD2) eD
        have wl := TVs.len tvs
        have kt : ∀ o, ∀ q xs, H3 q = some (.tup xs) → upd H3 D2 (.lst o) q = some (.tup xs) := fun o q xs hq => by rw [upd_ne (ne_of hq e3 (by intro z; cases z))]; exact hq
        refine ⟨ws, e3, ?_, ws ++ [v3], ts ++ [t3], m3, (s5.trans y3).wr hB (s3.free D2 nD2), upd_same, ?_, fun t ht => ?_, ?_⟩
        · rw [wl]; exact Nat.lt_of_le_of_lt (show ts.length ≤ 500 by omega) (by decide)
        · exact TVs.snoc (TV.imp (kt _) t3 v3 tv3) (TVs.imp (kt _) ts ws (TVs.imp (Bs.tup y3 s5.box) ts ws tvs))
        · rcases List.mem_append.mp ht with ht | ht
          · exact dr t ht
          · rw [List.mem_singleton.mp ht]; exact dr3
        · rw [List.length_append, List.length_singleton]; omega
      · refine ⟨D2, ws, rfl, .inl ⟨SqL.of eD, fun p np => ⟨three_le, fun p2 np2 => ?_⟩⟩⟩
        have s6 := (s5.new (o := .tup ws) np).new (o := .tup [.str "call", .str (S z.1), .ref p]) np2
        refine q _ _ _ (.call z.1 ts) s6 ?_ (.call g1 g2 (by omega) dr)
        rw [TV]
        exact ⟨p2, p, ws, rfl, upd_same, newtup np2 _ _ upd_same, TVs.imp (newtup np2) ts ws (TVs.imp (newtup np) ts ws tvs), by omega⟩)
theorem ok_tree {f f1 f2 : Addr} {fd fd1 fd2 : FuncData} (F : Fun K "_law_tree" "_law_tree" sTree f fd) (T : Txt K mg) (T2 : Txt2 mg) (FD : FO P w K mg base CX0 1 "_law_draw" ["box", "many"] spDraw f1 fd1)
    (FA : FO P w K mg base CX0 2 "_law_atom" ["box", "names"] spAtom f2 fd2) (m : mg "_law_tree" = some (.ref f)) (kp : PySem.W.keepIn K (.ref f) = true) (bi : Binds K fd ["box", "names", "calls", "depth"] []) :
    ∀ n, FnOk P w K mg base CX0 (2 + n) f fd ["box", "names", "calls", "depth"] (spTr n)
  | 0 => ⟨fun vs H Q E h => by obtain ⟨b, d, ds, m, ln, lc, ns, cs, dep, rfl, _⟩ := h; rfl, fun A outer s H args us vs Q E hr e b v h => by
      obtain ⟨b, d, ds, m, ln, lc, ns, cs, dep, rfl, _, _, _, hd, _⟩ := h
      omega⟩
  | n + 1 => ok_tree1 F T T2 FD FA m kp bi (ok_tree F T T2 FD FA m kp bi n)
end
end K3

set_option maxRecDepth 100000
set_option maxHeartbeats 8000000
/-! the law's own: _law_write, _law_rest -/
namespace K3
open PySem hiding Tok code
open PySem.Spec PyProof.Rows GD K1
open L2 hiding rest
open K2 hiding Sp P
abbrev sLRest : Stmt := topS 45
abbrev sLWrite : Stmt := topS 46
section
variable {P : Program} {w : World} {K : PySem.W.Frag} {mg : Str → Option Value} {base : Heap}
def spLR (n : Nat) : L2.Sp := fun vs H Q _ => ∃ v t, vs = [v] ∧ TV H t v ∧ DrL n t ∧ n ≤ 6 ∧ ∀ H', Same H H' → Q (.str (S (rest t))) H'
def spLRs (n : Nat) : L2.Sp := fun vs H Q _ => ∃ v t, vs = [v] ∧ TV H t v ∧ DrL n t ∧ n ≤ 6 ∧ isSeq t = true ∧ ∀ H', Same H H' → Q (.str (S (rest t))) H'
theorem addLe {x y : Str} {m n : Nat} (h1 : x.length ≤ m) (h2 : y.length ≤ n) (h : m + n ≤ 1000000) : x.length + y.length ≤ sizeLine := Nat.le_trans (Nat.le_trans (Nat.add_le_add h1 h2) h) (by decide)
theorem appLe {x y : Str} {m n : Nat} (h1 : x.length ≤ m) (h2 : y.length ≤ n) : (x ++ y).length ≤ m + n := by rw [strLen_append]; exact Nat.add_le_add h1 h2
theorem SLe {l : List Nat} {n : Nat} (h : l.length ≤ n) : (S l).length ≤ n := by rw [S_len]; exact h
theorem litLe {x : Str} {n : Nat} (h : decide (x.length ≤ n) = true) : x.length ≤ n := of_decide_eq_true h
theorem scLRest : FnScope ["tree"] ["tree"] (defScope sLRest) := ⟨rfl, rfl, rfl, by decide +kernel, rfl, by decide +kernel, by decide +kernel⟩
theorem ok_lrest {k n : Nat} {f f1 f2 : Addr} {fd fd1 fd2 : FuncData} (F : Fun K "_law_rest" "_law_rest" sLRest f fd) (FW : FO P w K mg base CX0 k "_law_write" ["tree", "least"] (spWO n) f1 fd1) (FR : FO P w K mg base CX0 k "_law_rest" ["tree"] (spLR n) f fd) :
    FnOk P w K mg base CX0 (k + 1) f fd ["tree"] (spLRs (n + 1)) := by
  have sc := scLRest
  refine F.ok sc (fun vs H Q E h => ?_) (fun cdv A outer s H vs Q E hr h => ?_)
  · obtain ⟨v, t, rfl, _⟩ := h
    rfl
  · obtain ⟨v, t, rfl, tv, dr, hn, hs, q⟩ := h
    refine ⟨_, (pss_cons (ps_if (pt_cmpR op_eq (pe_ix ix_tup (pv 0) pe_int (fun _ _ => rfl)) pe_str (nomark _))
      (pss_one (ps_ret (pe_op op_add_str (pe_op op_add_str (pe_call FW.ok hr (by rfl) FW.m FW.kp FW.b .nil pass0 (pa_cons (pe_ix ix_tup (pv 0) pe_int (fun _ _ => rfl)) (pa_cons pe_int pa_nil))) pe_str) (pe_call FR.ok hr (by rfl) FR.m FR.kp FR.b .nil pass0 (pa_cons (pe_ix ix_tup (pv 0) pe_int (fun _ _ => rfl)) pa_nil)))))
      pss_nil)
      (pss_one (ps_ret (pe_call FW.ok hr (by rfl) FW.m FW.kp FW.b .nil pass0 (pa_cons (pv 0) (pa_cons pe_int pa_nil)))))), ?_⟩
    cases t with
    | seq a b =>
      rw [TV] at tv
      obtain ⟨p, va, vb, rfl, hp, ta, tb⟩ := tv
      have da : DrL n a := drl_kid dr (by show a ∈ [a, b]; simp)
      have db : DrL n b := drl_kid dr (by show b ∈ [a, b]; simp)
      have la := (core_sm da (by omega)).1
      have lb := (core_sm db (by omega)).2
      refine ⟨_, rfl, p, _, _, _, rfl, rfl, SqT.of hp, atI_nat (j := 0) rfl, rfl, _, rfl, iteT ?_⟩
      refine ⟨_, rfl, p, _, _, _, rfl, rfl, SqT.of hp, atI_nat (j := 1) rfl, va, a, 0, rfl, ta, da, by omega, fun H1 s1 => ?_⟩
      rw [wr0]
      refine ⟨_, _, rfl, rfl, addLe (n := 2) (SLe la) (litLe (by decide +kernel)) (by decide), ?_⟩
      refine ⟨_, rfl, p, _, _, _, rfl, rfl, SqT.of (s1 _ _ hp), atI_nat (j := 2) rfl, vb, b, rfl, TV.imp (same_tup s1) b vb tb, db, by omega, fun H2 s2 => ?_⟩
      have e0 : S (core a) ++ S [59, 32] ++ S (rest b) = S (rest (.seq a b)) := by
        rw [rest, S_app, S_app, List.append_assoc]
      refine ⟨_, _, rfl, rfl, addLe (appLe (n := 2) (SLe la) (litLe (by decide +kernel))) (SLe lb) (by decide), ?_⟩
      · exact e0 ▸ q H2 (fun c o hc => s2 _ _ (s1 _ _ hc))
    | _ => cases hs
theorem ok_lrest2 {k n : Nat} {f f1 f2 : Addr} {fd fd1 fd2 : FuncData} (F : Fun K "_law_rest" "_law_rest" sLRest f fd) (FW : FO P w K mg base CX0 k "_law_write" ["tree", "least"] (spWO n) f1 fd1) (FR : FO P w K mg base CX0 k "_law_rest" ["tree"] (spLRs n) f fd) :
    FnOk P w K mg base CX0 (k + 1) f fd ["tree"] (fun vs H Q E => ∃ v t, vs = [v] ∧ TV H t v ∧ DrL n t ∧ n ≤ 6 ∧ isSeq t = false ∧ ∀ H', Same H H' → Q (.str (S (rest t))) H') := by
  have sc := scLRest
  refine F.ok sc (fun vs H Q E h => ?_) (fun cdv A outer s H vs Q E hr h => ?_)
  · obtain ⟨v, t, rfl, _⟩ := h
    rfl
  · obtain ⟨v, t, rfl, tv, dr, hn, hs, q⟩ := h
    refine ⟨_, (pss_cons (ps_if (pt_cmpR op_eq (pe_ix ix_tup (pv 0) pe_int (fun _ _ => rfl)) pe_str (nomark _))
      (pss_one (ps_ret (pe_op op_add_str (pe_op op_add_str (pe_call FW.ok hr (by rfl) FW.m FW.kp FW.b .nil pass0 (pa_cons (pe_ix ix_tup (pv 0) pe_int (fun _ _ => rfl)) (pa_cons pe_int pa_nil))) pe_str) (pe_call FR.ok hr (by rfl) FR.m FR.kp FR.b .nil pass0 (pa_cons (pe_ix ix_tup (pv 0) pe_int (fun _ _ => rfl)) pa_nil)))))
      pss_nil)
      (pss_one (ps_ret (pe_call FW.ok hr (by rfl) FW.m FW.kp FW.b .nil pass0 (pa_cons (pv 0) (pa_cons pe_int pa_nil)))))), ?_⟩
    obtain ⟨p, xs, z, rfl, hp, h0, dz⟩ := kindB H tv hs
    refine ⟨_, rfl, p, _, _, _, rfl, rfl, SqT.of hp, atI_nat (j := 0) h0, rfl, _, rfl, ?_⟩
    rw [dz]
    refine iteF ?_
    rw [rest_no hs] at q
    exact ⟨_, rfl, .ref p, t, 0, rfl, tv, dr, hn, q⟩
/-- both ways of _law_rest -/
theorem lr_both {k n : Nat} {f : Addr} {fd : FuncData} (h1 : FnOk P w K mg base CX0 k f fd ["tree"] (spLRs n)) (h2 : FnOk P w K mg base CX0 k f fd ["tree"] (fun vs H Q E => ∃ v t, vs = [v] ∧ TV H t v ∧ DrL n t ∧ n ≤ 6 ∧ isSeq t = false ∧ ∀ H', Same H H' → Q (.str (S (rest t))) H')) :
    FnOk P w K mg base CX0 k f fd ["tree"] (spLR n) :=
  ⟨fun vs H Q E h => by obtain ⟨v, t, rfl, _⟩ := h; rfl, fun A outer s H args us vs Q E hr e b v h => by
    obtain ⟨x, t, rfl, tv, dr, hn, q⟩ := h
    cases hs : isSeq t with
    | true => exact h1.run A outer s H args us _ Q E hr e b v ⟨x, t, rfl, tv, dr, hn, hs, q⟩
    | false => exact h2.run A outer s H args us _ Q E hr e b v ⟨x, t, rfl, tv, dr, hn, hs, q⟩⟩
end
end K3

set_option maxRecDepth 100000
set_option maxHeartbeats 16000000
/-! the law's own: _law_write -/
namespace K3
open PySem hiding Tok code
open PySem.Spec PyProof.Rows GD K1
open L2 hiding rest
open K2 hiding Sp P
section
variable {P : Program} {w : World} {K : PySem.W.Frag} {mg : Str → Option Value} {base : Heap}
theorem wr_par {t : Tr} {l : Nat} (h : lvl t < l) : Str.ofString "(" ++ S (core t) ++ Str.ofString ")" = S (wr t l) := by
  show S [40] ++ S (core t) ++ S [41] = _
  unfold wr inPar
  rw [S_app, S_app, if_pos (decide_eq_true h)]
  simp only [List.append_assoc]
theorem wr_not {t : Tr} {l : Nat} (h : ¬ lvl t < l) : S (core t) = S (wr t l) := by unfold wr inPar; rw [if_neg (by simpa using h)]
theorem op_text (c : Nat) (a b : Tr) : S (wr a (lL c)) ++ Str.ofString " " ++ S [c] ++ Str.ofString " " ++ S (wr b (lR c)) = S (core (.op c a b)) := by
  show S (wr a (lL c)) ++ S [32] ++ S [c] ++ S [32] ++ S (wr b (lR c)) = _
  rw [S_app, S_app, S_app, S_app, core]
  unfold wr
  simp only [List.append_assoc]
  rfl
theorem argLv (c : Nat) (va : V) (a b : Tr) : ([va, (fun i j : Int => V.int (i + j)) ((lvl (Tr.op c a b) : Nat) : Int) (if decide (V.int ((lvl (Tr.op c a b) : Nat) : Int) = V.int 1) = true then 1 else 0)] ++ [] : List V) = [va, V.int (lL c : Nat)] := by
  show [va, V.int (((lvlO c : Nat) : Int) + (if decide (V.int ((lvlO c : Nat) : Int) = V.int 1) = true then 1 else 0))] = _
  unfold lL
  by_cases h : lvlO c = 1
  · rw [h]; rfl
  · rw [if_neg h, decide_eq_false (fun z => h (by injection z with z; exact Int.ofNat.inj z))]
    show [va, V.int (((lvlO c : Nat) : Int) + 0)] = _
    rw [Int.add_zero]
theorem argRv (c : Nat) (vb : V) (a b : Tr) : ([vb, (fun i j : Int => V.int (i + j)) ((lvl (Tr.op c a b) : Nat) : Int) 1] ++ [] : List V) = [vb, V.int (lR c : Nat)] := rfl
theorem scLWrite : FnScope ["tree", "least", "word", "text", "part", "level"] ["tree", "least"] (defScope sLWrite) := ⟨rfl, rfl, rfl, by decide +kernel, rfl, by decide +kernel, by decide +kernel⟩
theorem ok_lwrite {k n : Nat} {f f1 f2 : Addr} {fd fd1 fd2 : FuncData} (F : Fun K "_law_write" "_law_write" sLWrite f fd) (T : Txt K mg) (FW : FO P w K mg base CX0 k "_law_write" ["tree", "least"] (spWO n) f fd)
    (FR : FO P w K mg base CX0 (k + 1) "_law_rest" ["tree"] (spLRs (n + 1)) f1 fd1) (FL : FO P w K mg base CX0 1 "_law_level" ["tree"] spLev f2 fd2) (hk : 1 ≤ k) :
    FnOk P w K mg base CX0 (k + 2) f fd ["tree", "least"] (spWO (n + 1)) := by
  have sc := scLWrite
  refine F.ok sc (fun vs H Q E h => ?_) (fun cdv A outer s H vs Q E hr h => ?_)
  · obtain ⟨v, t, l, rfl, _⟩ := h
    rfl
  · obtain ⟨v, t, l, rfl, tv, dr, hn, q⟩ := h
    have hr0 : Room k _ := hr.mono (by omega)
    have hr1 : Room 1 _ := hr.mono (by omega)
    refine ⟨_, (pss_cons (ps_set (i := 2) sc.nd rfl (Or.inl rfl) (pe_ix ix_tup (pv 0) pe_int (fun _ _ => rfl)))
      (pss_cons (ps_set (i := 3) sc.nd rfl (Or.inl rfl) pe_str)
      (pss_cons (ps_if (pt_cmpR op_eq (pv 2) pe_str (nomark _))
      (pss_one (ps_set (i := 3) sc.nd rfl (Or.inl rfl) (pe_callTy call_str_int (by rfl) T.bstr (by decide +kernel) (pa_cons (pe_ix ix_tup (pv 0) pe_int (fun _ _ => rfl)) pa_nil))))
      (pss_one (ps_if (pt_cmpR op_eq (pv 2) pe_str (nomark _))
      (pss_one (ps_set (i := 3) sc.nd rfl (Or.inl rfl) (pe_op op_add_str (pe_op op_add_str pe_str (pe_ix ix_tup (pv 0) pe_int (fun _ _ => rfl))) pe_str)))
      (pss_one (ps_if (pt_cmpR op_eq (pv 2) pe_str (nomark _))
      (pss_one (ps_set (i := 3) sc.nd rfl (Or.inl rfl) (pe_ix ix_tup (pv 0) pe_int (fun _ _ => rfl))))
      (pss_one (ps_if (pt_cmpR op_eq (pv 2) pe_str (nomark _))
      (pss_one (ps_set (i := 3) sc.nd rfl (Or.inl rfl) (pe_op op_add_str (pe_op op_add_str (pe_op op_add_str (pe_ix ix_tup (pv 0) pe_int (fun _ _ => rfl)) pe_str) (pe_join pe_str (pe_lc (own := [("part", 4)]) rfl sc.nd (pi_tup (pe_ix ix_tup (pv 0) pe_int (fun _ _ => rfl))) (blkOk_by (own := [("part", 4)]) (N := ["tree", "least", "word", "text", "part", "level"]) (sc := defScope sLWrite) (by decide +kernel)) (fun _ _ _ _ _ => (pg_name (i := 4) sc.nd rfl (Or.inl rfl))) (fun _ _ _ _ _ => pts_nil) (fun _ _ _ _ _ => (pe_call FW.ok hr0 (by rfl) FW.m FW.kp FW.b .nil pass0 (pa_cons (pv 4) (pa_cons pe_int pa_nil))))))) pe_str)))
      (pss_one (ps_if (pt_cmpR op_eq (pv 2) pe_str (nomark _))
      (pss_one (ps_set (i := 3) sc.nd rfl (Or.inl rfl) (pe_op op_add_str (pe_op op_add_str pe_str (pe_call FR.ok hr (by rfl) FR.m FR.kp FR.b .nil pass0 (pa_cons (pv 0) pa_nil))) pe_str)))
      (pss_one (ps_if (pt_cmpR op_eq (pv 2) pe_str (nomark _))
      (pss_one (ps_set (i := 3) sc.nd rfl (Or.inl rfl) (pe_op op_add_str (pe_op op_add_str (pe_op op_add_str (pe_op op_add_str (pe_op op_add_str pe_str (pe_call FW.ok hr0 (by rfl) FW.m FW.kp FW.b .nil pass0 (pa_cons (pe_ix ix_tup (pv 0) pe_int (fun _ _ => rfl)) (pa_cons pe_int pa_nil)))) pe_str) (pe_call FW.ok hr0 (by rfl) FW.m FW.kp FW.b .nil pass0 (pa_cons (pe_ix ix_tup (pv 0) pe_int (fun _ _ => rfl)) (pa_cons pe_int pa_nil)))) pe_str) (pe_call FW.ok hr0 (by rfl) FW.m FW.kp FW.b .nil pass0 (pa_cons (pe_ix ix_tup (pv 0) pe_int (fun _ _ => rfl)) (pa_cons pe_int pa_nil))))))
      (pss_one (ps_if (pt_cmpR op_eq (pv 2) pe_str (nomark _))
      (pss_one (ps_set (i := 3) sc.nd rfl (Or.inl rfl) (pe_op op_add_str (pe_op op_add_str (pe_op op_add_str pe_str (pe_ix ix_tup (pv 0) pe_int (fun _ _ => rfl))) pe_str) (pe_call FW.ok hr0 (by rfl) FW.m FW.kp FW.b .nil pass0 (pa_cons (pe_ix ix_tup (pv 0) pe_int (fun _ _ => rfl)) (pa_cons pe_int pa_nil))))))
      (pss_cons (ps_set (i := 5) sc.nd rfl (Or.inl rfl) (pe_call FL.ok hr1 (by rfl) FL.m FL.kp FL.b .nil pass0 (pa_cons (pv 0) pa_nil)))
      (pss_one (ps_set (i := 3) sc.nd rfl (Or.inl rfl) (pe_op op_add_str (pe_op op_add_str (pe_op op_add_str (pe_op op_add_str (pe_call FW.ok hr0 (by rfl) FW.m FW.kp FW.b .nil pass0 (pa_cons (pe_ix ix_tup (pv 0) pe_int (fun _ _ => rfl)) (pa_cons (pe_op op_add (pv 5) (pe_callTy call_int1 (by rfl) T.bint (by decide +kernel) (pa_cons (pe_cmpR op_eq (pv 5) pe_int (nomark _)) pa_nil))) pa_nil))) pe_str) (pv 2)) pe_str) (pe_call FW.ok hr0 (by rfl) FW.m FW.kp FW.b .nil pass0 (pa_cons (pe_ix ix_tup (pv 0) pe_int (fun _ _ => rfl)) (pa_cons (pe_op op_add (pv 5) pe_int) pa_nil))))))))))))))))))))
      (pss_cons (ps_if (pt_cmpR op_lt (pe_call FL.ok hr1 (by rfl) FL.m FL.kp FL.b .nil pass0 (pa_cons (pv 0) pa_nil)) (pv 1) (nomark _))
      (pss_one (ps_ret (pe_op op_add_str (pe_op op_add_str pe_str (pv 3)) pe_str)))
      pss_nil)
      (pss_one (ps_ret (pv 3))))))), ?_⟩
    have tvs := tv
    have sm := (core_sm dr hn).1
    have fin : ∀ x : Str, S (core t) = x → (S (core t)).length ≤ 5822 := fun x _ => SLe sm
    cases t
    case' num m =>
      rw [TV] at tv
      obtain ⟨p, rfl, hp⟩ := tv
      have hm : m ≤ 99999 := by have dr : Dr n (.num m) := dr; cases dr with | num h => exact h
      refine ⟨_, rfl, p, _, _, _, rfl, rfl, SqT.of hp, atI_nat (j := 0) rfl, _, rfl, rfl, _, rfl, iteT ?_⟩
      refine ⟨_, rfl, p, _, _, _, rfl, rfl, SqT.of hp, atI_nat (j := 1) rfl, _, rfl, num_bit hm, ?_⟩
      have e : (Str.ofString (toString (m : Int))) = S (core (.num m)) := by rw [core]; exact (S_of _).symm
      rw [e]
      have sE := Same.refl H
    case' str m =>
      rw [TV] at tv
      obtain ⟨p, rfl, hp⟩ := tv
      have hm : m.length ≤ 12 := by have dr : Dr n (.str m) := dr; cases dr with | str h _ => exact h
      refine ⟨_, rfl, p, _, _, _, rfl, rfl, SqT.of hp, atI_nat (j := 0) rfl, _, rfl, rfl, _, rfl, iteF ⟨_, rfl, rfl, _, rfl, iteT ?_⟩⟩
      refine ⟨_, rfl, p, _, _, _, rfl, rfl, SqT.of hp, atI_nat (j := 1) rfl, _, _, rfl, rfl, addLe (m := 1) (litLe (by decide +kernel)) (SLe hm) (by decide), _, _, rfl, rfl, addLe (n := 1) (appLe (m := 1) (litLe (by decide +kernel)) (SLe hm)) (litLe (by decide +kernel)) (by decide), ?_⟩
      have e : Str.ofString "\"" ++ S m ++ Str.ofString "\"" = S (core (.str m)) := by
        show S [34] ++ S m ++ S [34] = _
        rw [S_app, S_app, core]
      rw [e]
      have sE := Same.refl H
    case' name m =>
      rw [TV] at tv
      obtain ⟨p, rfl, hp⟩ := tv
      refine ⟨_, rfl, p, _, _, _, rfl, rfl, SqT.of hp, atI_nat (j := 0) rfl, _, rfl, rfl, _, rfl, iteF ⟨_, rfl, rfl, _, rfl, iteF ⟨_, rfl, rfl, _, rfl, iteT ?_⟩⟩⟩
      refine ⟨_, rfl, p, _, _, _, rfl, rfl, SqT.of hp, atI_nat (j := 1) rfl, ?_⟩
      have e : S m = S (core (.name m)) := by rw [core]
      rw [e]
      have sE := Same.refl H
    case' call g as =>
      rw [TV] at tv
      obtain ⟨p, ar, ws, rfl, hp, ha, tvs', hl⟩ := tv
      have wl := TVs.len tvs'
      have nm := wcall_name dr
      refine ⟨_, rfl, p, _, _, _, rfl, rfl, SqT.of hp, atI_nat (j := 0) rfl, _, rfl, rfl, _, rfl, iteF ⟨_, rfl, rfl, _, rfl, iteF ⟨_, rfl, rfl, _, rfl, iteF ⟨_, rfl, rfl, _, rfl, iteT ?_⟩⟩⟩⟩
      refine ⟨_, rfl, p, _, _, _, rfl, rfl, SqT.of hp, atI_nat (j := 1) rfl, _, _, rfl, rfl, addLe (n := 1) (SLe nm.1) (litLe (by decide +kernel)) (by decide), ⟨_, rfl⟩, _, rfl, p, _, _, _, rfl, rfl, SqT.of hp, atI_nat (j := 2) rfl, ar, rfl, ⟨_, SqT.of ha⟩, fun D nD => ?_⟩
      refine lc_tup (K := K) (a := ar) (xs := ws) (fun i H' => Same H H' ∧ H' D = some (.lst (((as.take i).map core).map fun l => .str (S l)))) ⟨Same.lst (Same.refl H) nD, upd_same⟩ (fun i H' _ p => SqT.of (p.1 _ _ ha)) (fun i x H' hx p => ?_) (fun H' p => ?_)
      · obtain ⟨u, hu, tu⟩ := TVs.get tvs' hx
        refine ⟨rfl, ?_⟩
        refine ⟨_, rfl, x, u, 0, rfl, TV.imp (same_tup p.1) u x tu, drl_kid dr (List.mem_of_getElem? hu), by omega, fun H3 s3 => ?_⟩
        refine ⟨_, s3 _ _ p.2, ?_, fun b o e => ?_, ?_⟩
        · rw [List.length_map, List.length_map, List.length_take]
          exact Nat.lt_of_le_of_lt (Nat.le_trans (Nat.min_le_right _ _) hl) (by decide)
        · rw [upd_ne (ne_of_none e nD)]
          exact s3 b o (p.1 b o e)
        · rw [upd_same, List.take_add_one, hu, List.map_append, List.map_append]
          rfl
      rw [wl, List.take_length] at p
      obtain ⟨sE, eD⟩ := p
      have eY : ((as.map core).map fun l => V.str (S l)) = ((as.map core).map S).map V.str := (List.map_map (l := as.map core) (f := S) (g := V.str)).symm
      rw [eY] at eD
      have ln : (coreL as).length ≤ 5822 := by have := sm; rw [core] at this; simp only [List.length_append] at this; omega
      have jl : ((((as.map core).map S).map (·.length)).sum + ((as.map core).map S).length * (Str.ofString ", ").length) ≤ 16777216 := by
        have h1 : ∀ y ∈ (as.map core).map S, y.length ≤ 5822 := fun y hy => by
          obtain ⟨l, hl, rfl⟩ := List.mem_map.mp hy
          obtain ⟨u, hu, rfl⟩ := List.mem_map.mp hl
          rw [S_len]
          exact (core_sm (drl_kid dr hu) (by omega)).1
        have h2 := sum_le h1
        have h3 : ((as.map core).map S).length ≤ 3 := by rw [List.length_map, List.length_map]; exact nm.2
        have h4 : ((as.map core).map S).length * 5822 ≤ 3 * 5822 := Nat.mul_le_mul_right _ h3
        have h5 : ((as.map core).map S).length * (Str.ofString ", ").length ≤ 3 * 2 := Nat.mul_le_mul h3 (by decide)
        omega
      have ej : Txt.join (Str.ofString ", ") ((as.map core).map S) = S (coreL as) := by
        rw [coreL_join]
        exact joinS [44, 32] _
      refine ⟨_, D, (as.map core).map S, rfl, rfl, .inl (SqL.of eD), jl, ?_⟩
      rw [ej]
      refine ⟨_, _, rfl, rfl, addLe (appLe (n := 1) (SLe nm.1) (litLe (by decide +kernel))) (SLe ln) (by decide), _, _, rfl, rfl, addLe (n := 1) (appLe (appLe (n := 1) (SLe nm.1) (litLe (by decide +kernel))) (SLe ln)) (litLe (by decide +kernel)) (by decide), ?_⟩
      have e : S g ++ Str.ofString "(" ++ S (coreL as) ++ Str.ofString ")" = S (core (.call g as)) := by
        show S g ++ S [40] ++ S (coreL as) ++ S [41] = _
        rw [S_app, S_app, S_app, core]
        simp only [List.append_assoc]
      rw [e]
    case' seq a b =>
      rw [TV] at tv
      obtain ⟨p, va, vb, rfl, hp, _⟩ := tv
      have ln := (core_sm dr hn).2
      refine ⟨_, rfl, p, _, _, _, rfl, rfl, SqT.of hp, atI_nat (j := 0) rfl, _, rfl, rfl, _, rfl, iteF ⟨_, rfl, rfl, _, rfl, iteF ⟨_, rfl, rfl, _, rfl, iteF ⟨_, rfl, rfl, _, rfl, iteF ⟨_, rfl, rfl, _, rfl, iteT ?_⟩⟩⟩⟩⟩
      refine ⟨_, rfl, .ref p, _, rfl, tvs, dr, hn, rfl, fun H1 sE => ?_⟩
      refine ⟨_, _, rfl, rfl, addLe (m := 1) (litLe (by decide +kernel)) (SLe ln) (by decide), _, _, rfl, rfl, addLe (n := 1) (appLe (m := 1) (litLe (by decide +kernel)) (SLe ln)) (litLe (by decide +kernel)) (by decide), ?_⟩
      have e : Str.ofString "(" ++ S (rest (.seq a b)) ++ Str.ofString ")" = S (core (.seq a b)) := by
        show S [40] ++ S (rest (.seq a b)) ++ S [41] = _
        rw [S_app, S_app, core, rest]
        simp only [List.append_assoc]
      rw [e]
    case' ite x y z =>
      rw [TV] at tv
      obtain ⟨p, va, vb, vc, rfl, hp, ta, tb, tc⟩ := tv
      have da : DrL n x := drl_kid dr (by show x ∈ [x, y, z]; simp)
      have db : DrL n y := drl_kid dr (by show y ∈ [x, y, z]; simp)
      have dc : DrL n z := drl_kid dr (by show z ∈ [x, y, z]; simp)
      have la := (core_sm da (by omega)).1
      have lb := (core_sm db (by omega)).1
      have lc := (core_sm dc (by omega)).1
      refine ⟨_, rfl, p, _, _, _, rfl, rfl, SqT.of hp, atI_nat (j := 0) rfl, _, rfl, rfl, _, rfl, iteF ⟨_, rfl, rfl, _, rfl, iteF ⟨_, rfl, rfl, _, rfl, iteF ⟨_, rfl, rfl, _, rfl, iteF ⟨_, rfl, rfl, _, rfl, iteF ⟨_, rfl, rfl, _, rfl, iteT ?_⟩⟩⟩⟩⟩⟩
      refine ⟨_, rfl, p, _, _, _, rfl, rfl, SqT.of hp, atI_nat (j := 1) rfl, va, x, 0, rfl, ta, da, by omega, fun H1 s1 => ?_⟩
      rw [wr0]
      have l1 := appLe (m := 3) (x := Str.ofString "if ") (litLe (by decide +kernel)) (SLe la)
      have l2 := appLe l1 (n := 6) (y := Str.ofString " then ") (litLe (by decide +kernel))
      have l3 := appLe l2 (SLe lb)
      have l4 := appLe l3 (n := 6) (y := Str.ofString " else ") (litLe (by decide +kernel))
      refine ⟨_, _, rfl, rfl, addLe (m := 3) (litLe (by decide +kernel)) (SLe la) (by decide), _, _, rfl, rfl, addLe (n := 6) l1 (litLe (by decide +kernel)) (by decide), ?_⟩
      refine ⟨_, rfl, p, _, _, _, rfl, rfl, SqT.of (s1 _ _ hp), atI_nat (j := 2) rfl, vb, y, 0, rfl, TV.imp (same_tup s1) y vb tb, db, by omega, fun H2 s2 => ?_⟩
      rw [wr0]
      have s12 : Same H H2 := fun c o hc => s2 _ _ (s1 _ _ hc)
      refine ⟨_, _, rfl, rfl, addLe l2 (SLe lb) (by decide), _, _, rfl, rfl, addLe (n := 6) l3 (litLe (by decide +kernel)) (by decide), ?_⟩
      refine ⟨_, rfl, p, _, _, _, rfl, rfl, SqT.of (s12 _ _ hp), atI_nat (j := 3) rfl, vc, z, 0, rfl, TV.imp (same_tup s12) z vc tc, dc, by omega, fun H3 s3 => ?_⟩
      rw [wr0]
      have sE : Same H H3 := fun c o hc => s3 _ _ (s12 _ _ hc)
      refine ⟨_, _, rfl, rfl, addLe l4 (SLe lc) (by decide), ?_⟩
      have e : Str.ofString "if " ++ S (core x) ++ Str.ofString " then " ++ S (core y) ++ Str.ofString " else " ++ S (core z) = S (core (.ite x y z)) := by
        show S (code "if ") ++ S (core x) ++ S (code " then ") ++ S (core y) ++ S (code " else ") ++ S (core z) = _
        rw [S_app, S_app, S_app, S_app, S_app, core]
        simp only [List.append_assoc]
      rw [e]
    case' set y t =>
      rw [TV] at tv
      obtain ⟨p, va, rfl, hp, ta⟩ := tv
      have da : DrL n t := drl_kid dr (by show t ∈ [t]; simp)
      have la := (core_sm da (by omega)).1
      have hm : y.length ≤ 6 := by have dr : Dr n (.set y t) := dr; cases dr with | set _ h _ => exact h
      refine ⟨_, rfl, p, _, _, _, rfl, rfl, SqT.of hp, atI_nat (j := 0) rfl, _, rfl, rfl, _, rfl, iteF ⟨_, rfl, rfl, _, rfl, iteF ⟨_, rfl, rfl, _, rfl, iteF ⟨_, rfl, rfl, _, rfl, iteF ⟨_, rfl, rfl, _, rfl, iteF ⟨_, rfl, rfl, _, rfl, iteF ⟨_, rfl, rfl, _, rfl, iteT ?_⟩⟩⟩⟩⟩⟩⟩
      have l1 := appLe (m := 4) (x := Str.ofString "set ") (litLe (by decide +kernel)) (SLe hm)
      have l2 := appLe l1 (n := 3) (y := Str.ofString " = ") (litLe (by decide +kernel))
      refine ⟨_, rfl, p, _, _, _, rfl, rfl, SqT.of hp, atI_nat (j := 1) rfl, _, _, rfl, rfl, addLe (m := 4) (litLe (by decide +kernel)) (SLe hm) (by decide), _, _, rfl, rfl, addLe (n := 3) l1 (litLe (by decide +kernel)) (by decide), ?_⟩
      refine ⟨_, rfl, p, _, _, _, rfl, rfl, SqT.of hp, atI_nat (j := 2) rfl, va, t, 0, rfl, ta, da, by omega, fun H1 sE => ?_⟩
      rw [wr0]
      refine ⟨_, _, rfl, rfl, addLe l2 (SLe la) (by decide), ?_⟩
      have e : Str.ofString "set " ++ S y ++ Str.ofString " = " ++ S (core t) = S (core (.set y t)) := by
        show S (code "set ") ++ S y ++ S [32, 61, 32] ++ S (core t) = _
        rw [S_app, S_app, S_app, core]
        simp only [List.append_assoc]
      rw [e]
    case' op c a b =>
      rw [TV] at tv
      obtain ⟨p, va, vb, rfl, hp, ta, tb, hk9⟩ := tv
      have da : DrL n a := drl_kid dr (by show a ∈ [a, b]; simp)
      have db : DrL n b := drl_kid dr (by show b ∈ [a, b]; simp)
      have la := wr_len da (by omega) (lL c)
      have lb := wr_len db (by omega) (lR c)
      have hc9 : S [c] = S [c] := rfl
      simp only [List.mem_cons, List.not_mem_nil, or_false] at hk9
      rcases hk9 with rfl | rfl | rfl | rfl | rfl
      all_goals (
        refine ⟨_, rfl, p, _, _, _, rfl, rfl, SqT.of hp, atI_nat (j := 0) rfl, _, rfl, rfl, _, rfl, iteF ⟨_, rfl, rfl, _, rfl, iteF ⟨_, rfl, rfl, _, rfl, iteF ⟨_, rfl, rfl, _, rfl, iteF ⟨_, rfl, rfl, _, rfl, iteF ⟨_, rfl, rfl, _, rfl, iteF ⟨_, rfl, rfl, _, rfl, iteF ?_⟩⟩⟩⟩⟩⟩⟩
        refine ⟨_, rfl, .ref p, _, rfl, tvs, fun H1 s1 => ?_⟩
        refine ⟨_, rfl, p, _, _, _, rfl, rfl, SqT.of (s1 _ _ hp), atI_nat (j := 1) rfl, _, rfl, _, rfl, rfl, .inr ⟨_, rfl, _, _, rfl, rfl, va, a, lL _, argLv _ va a b, TV.imp (same_tup s1) a va ta, da, by omega, fun H2 s2 => ?_⟩⟩
        have s12 : Same H H2 := fun c o hc => s2 _ _ (s1 _ _ hc)
        have l1 := appLe (SLe la) (n := 1) (y := Str.ofString " ") (litLe (by decide +kernel))
        refine ⟨_, _, rfl, rfl, addLe (n := 1) (SLe la) (litLe (by decide +kernel)) (by decide), _, rfl, _, _, rfl, rfl, addLe (n := 1) l1 (litLe (by decide +kernel)) (by decide), _, _, rfl, rfl, addLe (n := 1) (appLe (n := 1) l1 (litLe (by decide +kernel))) (litLe (by decide +kernel)) (by decide), ?_⟩
        refine ⟨_, rfl, p, _, _, _, rfl, rfl, SqT.of (s12 _ _ hp), atI_nat (j := 2) rfl, _, rfl, _, _, rfl, rfl, vb, b, lR _, argRv _ vb a b, TV.imp (same_tup s12) b vb tb, db, by omega, fun H3 s3 => ?_⟩
        refine ⟨_, _, rfl, rfl, addLe (appLe (n := 1) (appLe (n := 1) l1 (litLe (by decide +kernel))) (litLe (by decide +kernel))) (SLe lb) (by decide), ?_⟩
        have sE : Same H H3 := fun c o hc => s3 _ _ (s12 _ _ hc)
        rw [op_text])
    all_goals (
      refine ⟨_, rfl, _, _, rfl, TV.imp (same_tup sE) _ _ tvs, fun H9 s9 => ?_⟩
      have sF : Same H H9 := fun c o hc => s9 _ _ (sE _ _ hc)
      refine ⟨_, rfl, _, _, rfl, rfl, _, rfl, ite2 (fun h => ?_) (fun h => ?_)⟩
      · have hh := Int.ofNat_lt.mp (of_decide_eq_true h)
        refine ⟨_, rfl, _, _, rfl, rfl, addLe (m := 1) (litLe (by decide +kernel)) (SLe sm) (by decide), _, _, rfl, rfl, addLe (n := 1) (appLe (m := 1) (litLe (by decide +kernel)) (SLe sm)) (litLe (by decide +kernel)) (by decide), ?_⟩
        exact (wr_par hh) ▸ q _ sF
      · have hh := fun z => h (decide_eq_true (Int.ofNat_lt.mpr z))
        exact ⟨_, rfl, (wr_not hh) ▸ q _ sF⟩)
end
end K3

set_option maxRecDepth 100000
set_option maxHeartbeats 16000000
/-! the law's own: _law_write and _law_rest at every depth, _law_height -/
namespace K3
open PySem hiding Tok code
open PySem.Spec PyProof.Rows GD K1
open L2 hiding rest
open K2 hiding Sp P
abbrev sLHeight : Stmt := topS 51
section
variable {P : Program} {w : World} {K : PySem.W.Frag} {mg : Str → Option Value} {base : Heap}
theorem ok_lwrites {f f1 f2 : Addr} {fd fd1 fd2 : FuncData} (T : Txt K mg) (F : Fun K "_law_write" "_law_write" sLWrite f fd) (m : mg "_law_write" = some (.ref f)) (kp : PySem.W.keepIn K (.ref f) = true) (b : Binds K fd ["tree", "least"] [])
    (F1 : Fun K "_law_rest" "_law_rest" sLRest f1 fd1) (m1 : mg "_law_rest" = some (.ref f1)) (kp1 : PySem.W.keepIn K (.ref f1) = true) (b1 : Binds K fd1 ["tree"] []) (FL : FO P w K mg base CX0 1 "_law_level" ["tree"] spLev f2 fd2) :
    ∀ n, FO P w K mg base CX0 (3 * n + 2) "_law_write" ["tree", "least"] (spWO n) f fd ∧ FO P w K mg base CX0 (3 * n + 2) "_law_rest" ["tree"] (spLR n) f1 fd1
  | 0 => ⟨⟨m, kp, b, fun vs H Q E h => by obtain ⟨v, t, l, rfl, _⟩ := h; rfl, fun A outer s H args us vs Q E hr e b v h => by obtain ⟨v, t, l, rfl, _, dr, _⟩ := h; exact dr.elim⟩,
    ⟨m1, kp1, b1, fun vs H Q E h => by obtain ⟨v, t, rfl, _⟩ := h; rfl, fun A outer s H args us vs Q E hr e b v h => by obtain ⟨v, t, rfl, _, dr, _⟩ := h; exact dr.elim⟩⟩
  | n + 1 => by
    obtain ⟨FW, FR⟩ := ok_lwrites T F m kp b F1 m1 kp1 b1 FL n
    have Rs := ok_lrest (f1 := f) (f2 := f) (fd1 := fd) (fd2 := fd) F1 FW FR
    have W := ok_lwrite F T FW ⟨m1, kp1, b1, Rs⟩ FL (by omega)
    have R2 := ok_lrest2 (f1 := f) (f2 := f) (fd1 := fd) (fd2 := fd) F1 ⟨m, kp, b, W⟩ ⟨m1, kp1, b1, Rs.mono (by omega)⟩
    exact ⟨⟨m, kp, b, W.mono (by omega)⟩, ⟨m1, kp1, b1, (lr_both (Rs.mono (by omega)) R2).mono (by omega)⟩⟩
/-! ### data of trees -/
def bT : Nat → Nat
  | 0 => 252
  | d + 1 => 9 * bT d + 60
theorem bT_ge : ∀ d, 252 ≤ bT d
  | 0 => Nat.le_refl _
  | d + 1 => by have := bT_ge d; rw [bT]; omega
theorem litFit (z : Str) (h : (decide (z.length ≤ 6) && z.cps.toList.all fun c => decide (c < 1000)) = true) : Fit (.str z) 0 62 := by
  rw [Bool.and_eq_true] at h
  exact Fit.str (n := 6) (of_decide_eq_true h.1) fun c hc => of_decide_eq_true (List.all_eq_true.mp h.2 c hc)
theorem nameFit {l : List Nat} (h1 : nmB l = true) (h2 : l.length ≤ 6) : Fit (.str (S l)) 0 62 := by
  refine Fit.strS (n := 6) h2 fun c hc => ?_
  have g := (nmB_good h1).2.2 c hc
  have : ∀ c ∈ LET, c < 1000 := by decide
  exact this c g
theorem mem2 {α : Type} {P : α → Prop} {a b : α} (h1 : P a) (h2 : P b) : ∀ x ∈ [a, b], P x := fun x hx => by
  simp only [List.mem_cons, List.not_mem_nil, or_false] at hx
  rcases hx with rfl | rfl <;> assumption
theorem mem3 {α : Type} {P : α → Prop} {a b c : α} (h1 : P a) (h2 : P b) (h3 : P c) : ∀ x ∈ [a, b, c], P x := fun x hx => by
  simp only [List.mem_cons, List.not_mem_nil, or_false] at hx
  rcases hx with rfl | rfl | rfl <;> assumption
theorem mem4 {α : Type} {P : α → Prop} {a b c d : α} (h1 : P a) (h2 : P b) (h3 : P c) (h4 : P d) : ∀ x ∈ [a, b, c, d], P x := fun x hx => by
  simp only [List.mem_cons, List.not_mem_nil, or_false] at hx
  rcases hx with rfl | rfl | rfl | rfl <;> assumption
theorem treeDs_map : ∀ as : List Tr, treeDs as = as.map treeD
  | [] => by rw [treeDs]; rfl
  | t :: ts => by rw [treeDs, treeDs_map ts]; rfl
theorem dr_fit {d : Nat} {t : Tr} (h : Dr d t) : Fit (treeD t) (2 * d + 1) (bT d) := by
  have two : ∀ {z : Str} {y : PyData} (d : Nat), (decide (z.length ≤ 6) && z.cps.toList.all fun c => decide (c < 1000)) = true → Fit y 0 122 → Fit (.tuple [.str z, y]) (2 * d + 1) (bT d) := fun {z y} d hz hy => by
    have := bT_ge d
    exact (Fit.tup (k := 0) (B := 122) (mem2 ((litFit z hz).more (Nat.le_refl _) (by decide)) hy)).more (by omega) (by simp only [List.length_cons, List.length_nil]; omega)
  induction h with
  | @num d n h => rw [treeD]; exact two d (by decide +kernel) ((Fit.num h).more (Nat.le_refl _) (by decide))
  | @str d l h k =>
    rw [treeD]
    exact two d (by decide +kernel) (Fit.strS (n := 12) h fun c hc => by
      have := k c hc
      unfold mayB at this
      have := of_decide_eq_true this
      omega)
  | @name d l h k => rw [treeD]; exact two d (by decide +kernel) ((nameFit h k).more (Nat.le_refl _) (by decide))
  | @call d f as h k l hs ih =>
    have hb := bT_ge d
    rw [treeD, treeDs_map]
    have f1 : Fit (.tuple (as.map treeD)) (2 * d + 1 + 1) (3 * bT d + 10) := by
      refine (Fit.tup (k := 2 * d + 1) (B := bT d) fun x hx => ?_).more (Nat.le_refl _) ?_
      · obtain ⟨t, ht, rfl⟩ := List.mem_map.mp hx
        exact ih t ht
      · rw [List.length_map]
        have : as.length * (bT d + 2) ≤ 3 * (bT d + 2) := Nat.mul_le_mul_right _ l
        omega
    refine (Fit.tup (mem3 ((litFit "call" (by decide +kernel)).more (Nat.zero_le _) (by omega)) ((nameFit h k).more (Nat.zero_le _) (by omega)) f1)).more (by omega) ?_
    rw [bT]
    simp only [List.length_cons, List.length_nil]
    omega
  | @ite d x y z hx hy hz i j k =>
    have hb := bT_ge d
    rw [treeD]
    refine (Fit.tup (mem4 ((litFit "if" (by decide +kernel)).more (Nat.zero_le _) (by omega)) i j k)).more (by omega) ?_
    rw [bT]
    simp only [List.length_cons, List.length_nil]
    omega
  | @set d x t h k ht i =>
    have hb := bT_ge d
    rw [treeD]
    refine (Fit.tup (mem3 ((litFit "set" (by decide +kernel)).more (Nat.zero_le _) (by omega)) ((nameFit h k).more (Nat.zero_le _) (by omega)) i)).more (by omega) ?_
    rw [bT]
    simp only [List.length_cons, List.length_nil]
    omega
  | @seq d x y hx hy i j =>
    have hb := bT_ge d
    rw [treeD]
    refine (Fit.tup (mem3 ((litFit "then" (by decide +kernel)).more (Nat.zero_le _) (by omega)) i j)).more (by omega) ?_
    rw [bT]
    simp only [List.length_cons, List.length_nil]
    omega
  | @op d c x y hc hx hy i j =>
    have hb := bT_ge d
    rw [treeD]
    have hs : ∀ c ∈ [42, 43, 45, 60, 61], (decide ((S [c]).length ≤ 6) && (S [c]).cps.toList.all fun c => decide (c < 1000)) = true := by decide +kernel
    refine (Fit.tup (mem3 ((litFit _ (hs c hc)).more (Nat.zero_le _) (by omega)) i j)).more (by omega) ?_
    rw [bT]
    simp only [List.length_cons, List.length_nil]
    omega
theorem drl_fit {n : Nat} {t : Tr} (h : DrL n t) : Fit (treeD t) (2 * n) (bT (n - 1)) := by
  cases n with
  | zero => exact h.elim
  | succ n => exact (dr_fit h).more (by omega) (Nat.le_refl _)
/-! ### _law_height -/
theorem fold_mem : ∀ (ns : List Int) (n : Int), ns.foldl max n ∈ n :: ns ∧ ∀ x ∈ n :: ns, x ≤ ns.foldl max n
  | [], n => ⟨List.mem_cons_self, fun x hx => by rw [List.mem_singleton.mp hx]; exact Int.le_refl _⟩
  | k :: ns, n => by
    obtain ⟨h1, h2⟩ := fold_mem ns (max n k)
    refine ⟨?_, fun x hx => ?_⟩
    · show ns.foldl max (max n k) ∈ _
      rcases List.mem_cons.mp h1 with h | h
      · rw [h]
        by_cases c : n ≤ k
        · rw [Int.max_eq_right c]; simp
        · rw [Int.max_eq_left (by omega)]; simp
      · exact List.mem_cons_of_mem _ (List.mem_cons_of_mem _ h)
    · show x ≤ ns.foldl max (max n k)
      have h3 := h2 (max n k) List.mem_cons_self
      rcases List.mem_cons.mp hx with rfl | hx
      · omega
      · rcases List.mem_cons.mp hx with rfl | hx
        · omega
        · exact h2 x (List.mem_cons_of_mem _ hx)
theorem mx_is {ns : List Int} {m : Int} (h0 : ns ≠ []) (h1 : m ∈ ns) (h2 : ∀ x ∈ ns, x ≤ m) : mx 0 ns = m := by
  cases ns with
  | nil => exact absurd rfl h0
  | cons n ns =>
    obtain ⟨g1, g2⟩ := fold_mem ns n
    have a := h2 _ g1
    have b := g2 m h1
    show ns.foldl max n = m
    omega
def spLH (n : Nat) : L2.Sp := fun vs H Q _ => ∃ v t, vs = [v] ∧ TV H t v ∧ DrL n t ∧ n ≤ 6 ∧ ∀ H', Same H H' → Q (.int (hI t)) H'
theorem scLHeight : FnScope ["tree", "parts", "part"] ["tree"] (defScope sLHeight) := ⟨rfl, rfl, rfl, by decide +kernel, rfl, by decide +kernel, by decide +kernel⟩
theorem ok_lheight1 {k n : Nat} {f : Addr} {fd : FuncData} (F : Fun K "_law_height" "_law_height" sLHeight f fd) (T : Txt K mg) (T2 : Txt2 mg) (FH : FO P w K mg base CX0 k "_law_height" ["tree"] (spLH n) f fd) :
    FnOk P w K mg base CX0 (k + 1) f fd ["tree"] (spLH (n + 1)) := by
  have sc := scLHeight
  refine F.ok sc (fun vs H Q E h => ?_) (fun cdv A outer s H vs Q E hr h => ?_)
  · obtain ⟨v, t, rfl, _⟩ := h
    rfl
  · obtain ⟨v, t, rfl, tv, dr, hn, q⟩ := h
    refine ⟨_, (pss_cons (ps_if (pt_cmpR op_in_seq (pe_ix ix_tup (pv 0) pe_int (fun _ _ => rfl)) (pe_tup (pa_cons pe_str (pa_cons pe_str (pa_cons pe_str pa_nil)))) rfl)
      (pss_one (ps_ret pe_int))
      pss_nil)
      (pss_cons (ps_set (i := 1) sc.nd rfl (Or.inl rfl) (pe_callTy call_list_of (by rfl) T.blist (by decide +kernel) (pa_cons (pe_slice sl_tup (pv 0) (po_some pe_int) po_none) pa_nil)))
      (pss_cons (ps_if (pt_cmpR op_eq (pe_ix ix_tup (pv 0) pe_int (fun _ _ => rfl)) pe_str (nomark _))
      (pss_one (ps_set (i := 1) sc.nd rfl (Or.inl rfl) (pe_callTy call_list_of (by rfl) T.blist (by decide +kernel) (pa_cons (pe_ix ix_tup (pv 0) pe_int (fun _ _ => rfl)) pa_nil))))
      pss_nil)
      (pss_cons (ps_if (pt_cmpR op_eq (pe_ix ix_tup (pv 0) pe_int (fun _ _ => rfl)) pe_str (nomark _))
      (pss_one (ps_set (i := 1) sc.nd rfl (Or.inl rfl) (pe_lst (pa_cons (pe_ix ix_tup (pv 0) pe_int (fun _ _ => rfl)) pa_nil))))
      pss_nil)
      (pss_cons (ps_if (pt_cmpR (op_eqD hr.units) (pv 1) (pe_lst pa_nil) (nomark _))
      (pss_one (ps_ret pe_int))
      pss_nil)
      (pss_one (ps_ret (pe_op op_add pe_int (pe_callB (cr_max rfl) (by rfl) T2.max (by decide +kernel) (pa_cons (pe_lc (own := [("part", 2)]) rfl sc.nd (pi_list (pv 1)) (blkOk_by (own := [("part", 2)]) (N := ["tree", "parts", "part"]) (sc := defScope sLHeight) (by decide +kernel)) (fun _ _ _ _ _ => (pg_name (i := 2) sc.nd rfl (Or.inl rfl))) (fun _ _ _ _ _ => pts_nil) (fun _ _ _ _ _ => (pe_call FH.ok hr (by rfl) FH.m FH.kp FH.b .nil pass0 (pa_cons (pv 2) pa_nil)))) pa_nil)))))))))), ?_⟩
    have new : ∀ {H' : Hp} {x : Addr} {o : HO}, Same H H' → H' x = none → Same H (upd H' x o) := fun {H' x o} s n => Same.up s n
    obtain ⟨ks, ek⟩ : ∃ ks, ks = kids t := ⟨_, rfl⟩
    have kf : ∃ k B, Fit (.list (treeDs ks)) k B ∧ k ≤ 64 := ⟨_, _, Fit.list (k := 2 * n) (B := bT (n - 1)) (fun x hx => by
      rw [treeDs_map, ek] at hx
      obtain ⟨u, hu, rfl⟩ := List.mem_map.mp hx
      exact drl_fit (drl_kid dr hu)), by omega⟩
    have hk := hgt_kids t
    have kd : ∀ u ∈ ks, DrL n u := fun u hu => drl_kid dr (ek ▸ hu)
    have k5 : ks.length ≤ 5000 := by
      rw [ek]
      cases t with
      | call f as => have := (wcall_name dr).2; show as.length ≤ 5000; omega
      | _ => show _ ≤ 5000; simp [kids]
    rw [← ek] at hk
    cases t
    case num m =>
      rw [TV] at tv
      obtain ⟨p, rfl, hp⟩ := tv
      rw [← hk, ek] at q
      exact ⟨_, rfl, p, _, _, _, rfl, rfl, SqT.of hp, atI_nat (j := 0) rfl, three_le, fun u nu => ⟨u, _, rfl, .inr (SqT.of upd_same), rfl, rfl, _, rfl, iteT (q _ (new (Same.refl H) nu))⟩⟩
    case str m =>
      rw [TV] at tv
      obtain ⟨p, rfl, hp⟩ := tv
      rw [← hk, ek] at q
      exact ⟨_, rfl, p, _, _, _, rfl, rfl, SqT.of hp, atI_nat (j := 0) rfl, three_le, fun u nu => ⟨u, _, rfl, .inr (SqT.of upd_same), rfl, rfl, _, rfl, iteT (q _ (new (Same.refl H) nu))⟩⟩
    case name m =>
      rw [TV] at tv
      obtain ⟨p, rfl, hp⟩ := tv
      rw [← hk, ek] at q
      exact ⟨_, rfl, p, _, _, _, rfl, rfl, SqT.of hp, atI_nat (j := 0) rfl, three_le, fun u nu => ⟨u, _, rfl, .inr (SqT.of upd_same), rfl, rfl, _, rfl, iteT (q _ (new (Same.refl H) nu))⟩⟩
    case' call g as =>
      rw [TV] at tv
      obtain ⟨p, ar, ws, rfl, hp, ha, tvs, hl⟩ := tv
      refine ⟨_, rfl, p, _, _, _, rfl, rfl, SqT.of hp, atI_nat (j := 0) rfl, three_le, fun u nu => ⟨u, _, rfl, .inr (SqT.of upd_same), rfl, rfl, _, rfl, iteF ?_⟩⟩
      have s1 := new (o := .tup [.str "number", .str "string", .str "name"]) (Same.refl H) nu
      refine ⟨_, rfl, _, rfl, p, _, rfl, SqT.of (s1 _ _ hp), (fun z => Nat.noConfusion (show (1 : Nat) = 0 from z.1)), fun x nx => ⟨x, _, rfl, .inr (SqT.of upd_same), fun D nD => ?_⟩⟩
      have s2 := new (o := .lst [.str (S g), .ref ar]) (new (o := .tup [.str (S g), .ref ar]) s1 nx) nD
      refine ⟨_, rfl, p, _, _, _, rfl, rfl, SqT.of (s2 _ _ hp), atI_nat (j := 0) rfl, rfl, _, rfl, iteT ?_⟩
      refine ⟨_, rfl, p, _, _, _, rfl, rfl, SqT.of (s2 _ _ hp), atI_nat (j := 2) rfl, ar, _, rfl, .inr (SqT.of (s2 _ _ ha)), fun D2 nD2 => ?_⟩
      have sE := new (o := .lst ws) s2 nD2
      refine ⟨_, rfl, p, _, _, _, rfl, rfl, SqT.of (sE _ _ hp), atI_nat (j := 0) rfl, rfl, _, rfl, iteF ?_⟩
      have eD := upd_same (H := upd (upd (upd H u (.tup [.str "number", .str "string", .str "name"])) x (.tup [.str (S g), .ref ar])) D (.lst [.str (S g), .ref ar])) (a := D2) (o := .lst ws)
      have tk := (show as = ks from ek.symm) ▸ (TVs.imp (same_tup sE) as ws tvs)
    case' set y t =>
      rw [TV] at tv
      obtain ⟨p, va, rfl, hp, ta⟩ := tv
      refine ⟨_, rfl, p, _, _, _, rfl, rfl, SqT.of hp, atI_nat (j := 0) rfl, three_le, fun u nu => ⟨u, _, rfl, .inr (SqT.of upd_same), rfl, rfl, _, rfl, iteF ?_⟩⟩
      have s1 := new (o := .tup [.str "number", .str "string", .str "name"]) (Same.refl H) nu
      refine ⟨_, rfl, _, rfl, p, _, rfl, SqT.of (s1 _ _ hp), (fun z => Nat.noConfusion (show (1 : Nat) = 0 from z.1)), fun x nx => ⟨x, _, rfl, .inr (SqT.of upd_same), fun D nD => ?_⟩⟩
      have s2 := new (o := .lst [.str (S y), va]) (new (o := .tup [.str (S y), va]) s1 nx) nD
      refine ⟨_, rfl, p, _, _, _, rfl, rfl, SqT.of (s2 _ _ hp), atI_nat (j := 0) rfl, rfl, _, rfl, iteF ?_⟩
      refine ⟨_, rfl, p, _, _, _, rfl, rfl, SqT.of (s2 _ _ hp), atI_nat (j := 0) rfl, rfl, _, rfl, iteT ?_⟩
      refine ⟨_, rfl, p, _, _, _, rfl, rfl, SqT.of (s2 _ _ hp), atI_nat (j := 2) rfl, (by show 1 ≤ sizeLine; decide), fun D2 nD2 => ?_⟩
      have sE := new (o := .lst [va]) s2 nD2
      have eD := upd_same (H := upd (upd (upd H u (.tup [.str "number", .str "string", .str "name"])) x (.tup [.str (S y), va])) D (.lst [.str (S y), va])) (a := D2) (o := .lst [va])
      have tk := (show [t] = ks from ek.symm) ▸ (TVs.one (TV.imp (same_tup sE) t va ta))
    case' ite x9 y9 z9 =>
      rw [TV] at tv
      obtain ⟨p, va, vb, vc, rfl, hp, ta, tb, tc⟩ := tv
      refine ⟨_, rfl, p, _, _, _, rfl, rfl, SqT.of hp, atI_nat (j := 0) rfl, three_le, fun u nu => ⟨u, _, rfl, .inr (SqT.of upd_same), rfl, rfl, _, rfl, iteF ?_⟩⟩
      have s1 := new (o := .tup [.str "number", .str "string", .str "name"]) (Same.refl H) nu
      refine ⟨_, rfl, _, rfl, p, _, rfl, SqT.of (s1 _ _ hp), (fun z => Nat.noConfusion (show (1 : Nat) = 0 from z.1)), fun x nx => ⟨x, _, rfl, .inr (SqT.of upd_same), fun D nD => ?_⟩⟩
      have sE := new (o := .lst [va, vb, vc]) (new (o := .tup [va, vb, vc]) s1 nx) nD
      refine ⟨_, rfl, p, _, _, _, rfl, rfl, SqT.of (sE _ _ hp), atI_nat (j := 0) rfl, rfl, _, rfl, iteF ?_⟩
      refine ⟨_, rfl, p, _, _, _, rfl, rfl, SqT.of (sE _ _ hp), atI_nat (j := 0) rfl, rfl, _, rfl, iteF ?_⟩
      have eD := upd_same (H := upd (upd H u (.tup [.str "number", .str "string", .str "name"])) x (.tup [va, vb, vc])) (a := D) (o := .lst [va, vb, vc])
      have tk := (show [x9, y9, z9] = ks from ek.symm) ▸ (TVs.three (TV.imp (same_tup sE) x9 va ta) (TV.imp (same_tup sE) y9 vb tb) (TV.imp (same_tup sE) z9 vc tc))
    case' seq x9 y9 =>
      rw [TV] at tv
      obtain ⟨p, va, vb, rfl, hp, ta, tb⟩ := tv
      refine ⟨_, rfl, p, _, _, _, rfl, rfl, SqT.of hp, atI_nat (j := 0) rfl, three_le, fun u nu => ⟨u, _, rfl, .inr (SqT.of upd_same), rfl, rfl, _, rfl, iteF ?_⟩⟩
      have s1 := new (o := .tup [.str "number", .str "string", .str "name"]) (Same.refl H) nu
      refine ⟨_, rfl, _, rfl, p, _, rfl, SqT.of (s1 _ _ hp), (fun z => Nat.noConfusion (show (1 : Nat) = 0 from z.1)), fun x nx => ⟨x, _, rfl, .inr (SqT.of upd_same), fun D nD => ?_⟩⟩
      have sE := new (o := .lst [va, vb]) (new (o := .tup [va, vb]) s1 nx) nD
      refine ⟨_, rfl, p, _, _, _, rfl, rfl, SqT.of (sE _ _ hp), atI_nat (j := 0) rfl, rfl, _, rfl, iteF ?_⟩
      refine ⟨_, rfl, p, _, _, _, rfl, rfl, SqT.of (sE _ _ hp), atI_nat (j := 0) rfl, rfl, _, rfl, iteF ?_⟩
      have eD := upd_same (H := upd (upd H u (.tup [.str "number", .str "string", .str "name"])) x (.tup [va, vb])) (a := D) (o := .lst [va, vb])
      have tk := (show [x9, y9] = ks from ek.symm) ▸ (TVs.two (TV.imp (same_tup sE) x9 va ta) (TV.imp (same_tup sE) y9 vb tb))
    case' op c x9 y9 =>
      rw [TV] at tv
      obtain ⟨p, va, vb, rfl, hp, ta, tb, hc9⟩ := tv
      simp only [List.mem_cons, List.not_mem_nil, or_false] at hc9
      rcases hc9 with rfl | rfl | rfl | rfl | rfl
      all_goals (
        refine ⟨_, rfl, p, _, _, _, rfl, rfl, SqT.of hp, atI_nat (j := 0) rfl, three_le, fun u nu => ⟨u, _, rfl, .inr (SqT.of upd_same), rfl, rfl, _, rfl, iteF ?_⟩⟩
        have s1 := new (o := .tup [.str "number", .str "string", .str "name"]) (Same.refl H) nu
        refine ⟨_, rfl, _, rfl, p, _, rfl, SqT.of (s1 _ _ hp), (fun z => Nat.noConfusion (show (1 : Nat) = 0 from z.1)), fun x nx => ⟨x, _, rfl, .inr (SqT.of upd_same), fun D nD => ?_⟩⟩
        have sE := new (o := .lst [va, vb]) (new (o := .tup [va, vb]) s1 nx) nD
        refine ⟨_, rfl, p, _, _, _, rfl, rfl, SqT.of (sE _ _ hp), atI_nat (j := 0) rfl, rfl, _, rfl, iteF ?_⟩
        refine ⟨_, rfl, p, _, _, _, rfl, rfl, SqT.of (sE _ _ hp), atI_nat (j := 0) rfl, rfl, _, rfl, iteF ?_⟩
        have eD := upd_same (H := upd (upd H u (.tup [.str "number", .str "string", .str "name"])) x (.tup [va, vb])) (a := D) (o := .lst [va, vb])
        have tk := (show [x9, y9] = ks from ek.symm) ▸ (TVs.two (TV.imp (same_tup sE) x9 va ta) (TV.imp (same_tup sE) y9 vb tb)))
    all_goals (
      obtain ⟨k9, B9, fit, hk9⟩ := kf
      refine ⟨_, rfl, Nat.zero_le _, fun l nl => ?_⟩
      have sF := new (o := .lst []) sE nl
      have eF := Same.up (o := .lst []) (Same.refl _) nl _ _ eD
      have tF := TVs.imp (newtup (o := .lst []) nl) _ _ tk
      refine ⟨_, _, .lst (SqL.of eF) (TVs.dp _ _ tF), .lst (SqL.of upd_same) .nil, fit.shaped hk9, fit_nil.shaped (by decide), _, rfl, ?_⟩
      rw [eqv_nil, treeDs_map]
      refine ite2 (fun h => ?_) (fun h => ?_)
      · have e : ks = [] := by simpa using h
        rw [← hk, e] at q
        exact q _ sF
      · have ne : ks ≠ [] := fun z => h (by rw [z]; rfl)
        have wl := TVs.len tF
        refine ⟨_, rfl, _, rfl, ⟨_, SqL.of eF⟩, fun E9 nE => ?_⟩
        refine lc_list (K := K) (fun i H' => Same _ H' ∧ H' E9 = some (.lst (((ks.take i).map hI).map V.int))) ⟨Same.lst (Same.refl _) nE, upd_same⟩ (fun i H' _ p => SqL.of (p.1 _ _ eF)) (fun i x H' hx p => ?_) (fun H' p => ?_)
        · obtain ⟨u9, hu9, tu9⟩ := TVs.get tF hx
          refine ⟨rfl, ?_⟩
          refine ⟨_, rfl, x, u9, rfl, TV.imp (same_tup p.1) u9 x tu9, kd u9 (List.mem_of_getElem? hu9), by omega, fun H3 s3 => ?_⟩
          refine ⟨_, s3 _ _ p.2, ?_, fun b o e => ?_, ?_⟩
          · rw [List.length_map, List.length_map, List.length_take]
            exact Nat.lt_of_le_of_lt (Nat.le_trans (Nat.min_le_right _ _) k5) (by decide)
          · rw [upd_ne (ne_of_none e nE)]
            exact s3 b o (p.1 b o e)
          · rw [upd_same, List.take_add_one, hu9, List.map_append, List.map_append]
            rfl
        · rw [wl, List.take_length] at p
          refine ⟨E9, ks.map hI, rfl, SqL.of p.2, ?_, fun m9 hm9 hle9 => ?_⟩
          · rw [List.length_map]
            exact List.length_pos_iff.mpr ne
          · have e9 : mx 0 (ks.map hI) = m9 := mx_is (fun z => ne (List.map_eq_nil_iff.mp z)) hm9 hle9
            rw [e9] at hk
            rw [← hk] at q
            exact ⟨_, _, rfl, rfl, q _ (fun b o hb => p.1 b o (sF b o hb))⟩)
theorem ok_lheight {f : Addr} {fd : FuncData} (F : Fun K "_law_height" "_law_height" sLHeight f fd) (T : Txt K mg) (T2 : Txt2 mg) (m : mg "_law_height" = some (.ref f)) (kp : PySem.W.keepIn K (.ref f) = true) (b : Binds K fd ["tree"] []) :
    ∀ n, FO P w K mg base CX0 (n + 1) "_law_height" ["tree"] (spLH n) f fd
  | 0 => ⟨m, kp, b, fun vs H Q E h => by obtain ⟨v, t, rfl, _⟩ := h; rfl, fun A outer s H args us vs Q E hr e b v h => by obtain ⟨v, t, rfl, _, dr, _⟩ := h; exact dr.elim⟩
  | n + 1 => ⟨m, kp, b, ok_lheight1 F T T2 (ok_lheight F T T2 m kp b n)⟩
end
end K3

set_option maxRecDepth 100000
set_option maxHeartbeats 16000000
/-! the law's own: _law_loose -/
namespace K3
open PySem hiding Tok code
open PySem.Spec PyProof.Rows GD K1
open L2 hiding rest
open K2 hiding Sp P
abbrev sLoose : Stmt := topS 52
theorem _root_.K1.Bs.same {b d : Addr} {ds : List Int} {H H' H2 : Hp} {n : Nat} (h : Bs b d ds H H' n) (s : Same H' H2) : Bs b d ds H H2 n :=
  ⟨fun c o nc hc => s _ _ (h.bx c o nc hc), ⟨s _ _ h.box.1, s _ _ h.box.2.1, h.box.2.2⟩, fun c hc => h.free c (by
    cases e : H' c with
    | none => rfl
    | some o => rw [s _ _ e] at hc; cases hc)⟩
def lm : Nat → Nat
  | 0 => 0
  | n + 1 => 3 * lm n + 20
section
variable {P : Program} {w : World} {K : PySem.W.Frag} {mg : Str → Option Value} {base : Heap}
def spLO (n : Nat) : L2.Sp := fun vs H Q _ => ∃ (b d : Addr) (ds : List Int) (m : Nat) (v : V) (t : Tr) (l : Nat), vs = [.ref b, v, .int (l : Nat)] ∧ Box H b d ds m ∧ TV H t v ∧ DrL n t ∧ n ≤ 5 ∧ l ≤ 4 ∧
  ∀ H' L m', Bs b d ds H H' m' → Ok l t L (2 * n) n → L.length ≤ lm n → Q (.str (S L)) H'
theorem okL_join {p b : Nat} {M : Nat} : ∀ {Ls : List (List Nat)} {as : List Tr}, Paired (fun L t => Ok 0 t L p b ∧ L.length ≤ M) Ls as → OkL as (joinN [44] Ls) p b ∧ (joinN [44] Ls).length ≤ Ls.length * (M + 1)
  | [], _, h => by cases h; exact ⟨OkL.nil, Nat.zero_le _⟩
  | [L], _, h => by
    cases h with
    | cons h1 h2 =>
      cases h2
      refine ⟨OkL.one h1.1, ?_⟩
      have := h1.2
      show L.length ≤ 1 * (M + 1)
      omega
  | L :: L2 :: Ls, _, h => by
    cases h with
    | cons h1 h2 =>
      cases h2 with
      | cons h3 h4 =>
        obtain ⟨i1, i2⟩ := okL_join (.cons h3 h4)
        refine ⟨OkL.cons 0 h1.1 i1, ?_⟩
        have := h1.2
        show (L ++ ([44] ++ joinN [44] (L2 :: Ls))).length ≤ ((L2 :: Ls).length + 1) * (M + 1)
        rw [Nat.succ_mul]
        simp only [List.length_append, List.length_cons, List.length_nil] at i2 ⊢
        omega
theorem lm_le : ∀ n, n ≤ 5 → lm n ≤ 2420 := by decide
theorem pairGetL {α β : Type} {R : α → β → Prop} {l : List α} {m : List β} (h : Paired R l m) : ∀ {i : Nat} {x : α}, l[i]? = some x → ∃ y, R x y := by
  induction h with
  | nil => intro i x h; cases h
  | @cons a b l m r _ ih =>
    intro i x h
    cases i with
    | zero => cases h; exact ⟨b, r⟩
    | succ i => exact ih h
theorem loose_op (L1 L2 : List Nat) (c : Nat) : S L1 ++ S [c] ++ Str.ofString " " ++ S L2 = S (L1 ++ (B 0 ++ ([c] ++ (B 1 ++ L2)))) := by
  show S L1 ++ S [c] ++ S [32] ++ S L2 = _
  rw [S_app, S_app, S_app]
  simp only [List.append_assoc]
  rfl
theorem loose_len {L1 L2 : List Nat} (c : Nat) {m : Nat} (h : L1.length + L2.length ≤ m) : (L1 ++ (B 0 ++ ([c] ++ (B 1 ++ L2)))).length ≤ m + 17 := by
  simp only [List.length_append, List.length_cons, List.length_nil, B, List.length_replicate]
  omega
theorem loose_lenC {L1 L2 : List Nat} {c m : Nat} (_ : c ∈ [42, 43, 45, 60, 61]) (h : L1.length + L2.length ≤ m) : (L1 ++ (B 0 ++ ([c] ++ (B 1 ++ L2)))).length ≤ m + 17 := loose_len c h
theorem par_text (L : List Nat) : Str.ofString "( " ++ S L ++ Str.ofString ")" = S ([40] ++ (B 1 ++ (L ++ [41]))) := by
  show S [40, 32] ++ S L ++ S [41] = _
  rw [S_app, S_app]
  simp only [List.append_assoc]
  rfl
theorem par_len {L : List Nat} {n : Nat} (h : L.length ≤ 3 * lm n + 17) : ([40] ++ (B 1 ++ (L ++ [41]))).length ≤ lm (n + 1) := by
  rw [lm]
  simp only [List.length_append, List.length_cons, List.length_nil, B, List.length_replicate]
  omega
theorem ok_paren {t : Tr} {L : List Nat} {n l : Nat} (h : Ok (lvl t) t L (2 * n + 1) (n + 1)) (hl : l ≤ 4) : Ok l t ([40] ++ (B 1 ++ (L ++ [41]))) (2 * (n + 1)) (n + 1) :=
  ((Ok.par 1 (h.down (Nat.zero_le _))).down hl).more (by omega) (Nat.le_refl _)
theorem scLoose : FnScope ["box", "tree", "least", "word", "text", "part", "level"] ["box", "tree", "least"] (defScope sLoose) := ⟨rfl, rfl, rfl, by decide +kernel, rfl, by decide +kernel, by decide +kernel⟩
theorem ok_loose1 {k n : Nat} {f f1 f2 f3 : Addr} {fd fd1 fd2 fd3 : FuncData} (F : Fun K "_law_loose" "_law_loose" sLoose f fd) (T : Txt K mg) (hk : 20 ≤ k)
    (FQ : FO P w K mg base CX0 k "_law_loose" ["box", "tree", "least"] (spLO n) f fd) (FW : FO P w K mg base CX0 20 "_law_write" ["tree", "least"] (spWO 6) f1 fd1)
    (FL : FO P w K mg base CX0 1 "_law_level" ["tree"] spLev f2 fd2) (FD : FO P w K mg base CX0 1 "_law_draw" ["box", "many"] spDraw f3 fd3) :
    FnOk P w K mg base CX0 (k + 1) f fd ["box", "tree", "least"] (spLO (n + 1)) := by
  have sc := scLoose
  refine F.ok sc (fun vs H Q E h => ?_) (fun cdv A outer s H vs Q E hr h => ?_)
  · obtain ⟨b, d, ds, m, v, t, l, rfl, _⟩ := h
    rfl
  · obtain ⟨b, d, ds, m, v, t, l, rfl, hB, tv, dr, hn, hl, q⟩ := h
    have hrW : Room 20 _ := hr.mono hk
    have hr1 : Room 1 _ := hr.mono (by omega)
    refine ⟨_, (pss_cons (ps_set (i := 3) sc.nd rfl (Or.inl rfl) (pe_ix ix_tup (pv 1) pe_int (fun _ _ => rfl)))
      (pss_cons (ps_set (i := 4) sc.nd rfl (Or.inl rfl) pe_str)
      (pss_cons (ps_if (pt_cmpR op_in_seq (pv 3) (pe_tup (pa_cons pe_str (pa_cons pe_str (pa_cons pe_str pa_nil)))) rfl)
      (pss_one (ps_set (i := 4) sc.nd rfl (Or.inl rfl) (pe_call FW.ok hrW (by rfl) FW.m FW.kp FW.b .nil pass0 (pa_cons (pv 1) (pa_cons pe_int pa_nil)))))
      (pss_one (ps_if (pt_cmpR op_eq (pv 3) pe_str (nomark _))
      (pss_one (ps_set (i := 4) sc.nd rfl (Or.inl rfl) (pe_op op_add_str (pe_op op_add_str (pe_op op_add_str (pe_ix ix_tup (pv 1) pe_int (fun _ _ => rfl)) pe_str) (pe_join pe_str (pe_lc (own := [("part", 5)]) rfl sc.nd (pi_tup (pe_ix ix_tup (pv 1) pe_int (fun _ _ => rfl))) (blkOk_by (own := [("part", 5)]) (N := ["box", "tree", "least", "word", "text", "part", "level"]) (sc := defScope sLoose) (by decide +kernel)) (fun _ _ _ _ _ => (pg_name (i := 5) sc.nd rfl (Or.inl rfl))) (fun _ _ _ _ _ => pts_nil) (fun _ _ _ _ _ => (pe_call FQ.ok hr (by rfl) FQ.m FQ.kp FQ.b .nil pass0 (pa_cons (pv 0) (pa_cons (pv 5) (pa_cons pe_int pa_nil)))))))) pe_str)))
      (pss_one (ps_if (pt_cmpR op_eq (pv 3) pe_str (nomark _))
      (pss_one (ps_set (i := 4) sc.nd rfl (Or.inl rfl) (pe_op op_add_str (pe_op op_add_str (pe_op op_add_str (pe_op op_add_str pe_str (pe_call FQ.ok hr (by rfl) FQ.m FQ.kp FQ.b .nil pass0 (pa_cons (pv 0) (pa_cons (pe_ix ix_tup (pv 1) pe_int (fun _ _ => rfl)) (pa_cons pe_int pa_nil))))) pe_str) (pe_call FQ.ok hr (by rfl) FQ.m FQ.kp FQ.b .nil pass0 (pa_cons (pv 0) (pa_cons (pe_ix ix_tup (pv 1) pe_int (fun _ _ => rfl)) (pa_cons pe_int pa_nil))))) pe_str)))
      (pss_one (ps_if (pt_cmpR op_eq (pv 3) pe_str (nomark _))
      (pss_one (ps_set (i := 4) sc.nd rfl (Or.inl rfl) (pe_op op_add_str (pe_op op_add_str (pe_op op_add_str (pe_op op_add_str (pe_op op_add_str pe_str (pe_call FQ.ok hr (by rfl) FQ.m FQ.kp FQ.b .nil pass0 (pa_cons (pv 0) (pa_cons (pe_ix ix_tup (pv 1) pe_int (fun _ _ => rfl)) (pa_cons pe_int pa_nil))))) pe_str) (pe_call FQ.ok hr (by rfl) FQ.m FQ.kp FQ.b .nil pass0 (pa_cons (pv 0) (pa_cons (pe_ix ix_tup (pv 1) pe_int (fun _ _ => rfl)) (pa_cons pe_int pa_nil))))) pe_str) (pe_call FQ.ok hr (by rfl) FQ.m FQ.kp FQ.b .nil pass0 (pa_cons (pv 0) (pa_cons (pe_ix ix_tup (pv 1) pe_int (fun _ _ => rfl)) (pa_cons pe_int pa_nil)))))))
      (pss_one (ps_if (pt_cmpR op_eq (pv 3) pe_str (nomark _))
      (pss_one (ps_set (i := 4) sc.nd rfl (Or.inl rfl) (pe_op op_add_str (pe_op op_add_str (pe_op op_add_str pe_str (pe_ix ix_tup (pv 1) pe_int (fun _ _ => rfl))) pe_str) (pe_call FQ.ok hr (by rfl) FQ.m FQ.kp FQ.b .nil pass0 (pa_cons (pv 0) (pa_cons (pe_ix ix_tup (pv 1) pe_int (fun _ _ => rfl)) (pa_cons pe_int pa_nil)))))))
      (pss_cons (ps_set (i := 6) sc.nd rfl (Or.inl rfl) (pe_call FL.ok hr1 (by rfl) FL.m FL.kp FL.b .nil pass0 (pa_cons (pv 1) pa_nil)))
      (pss_one (ps_set (i := 4) sc.nd rfl (Or.inl rfl) (pe_op op_add_str (pe_op op_add_str (pe_op op_add_str (pe_call FQ.ok hr (by rfl) FQ.m FQ.kp FQ.b .nil pass0 (pa_cons (pv 0) (pa_cons (pe_ix ix_tup (pv 1) pe_int (fun _ _ => rfl)) (pa_cons (pe_op op_add (pv 6) (pe_callTy call_int1 (by rfl) T.bint (by decide +kernel) (pa_cons (pe_cmpR op_eq (pv 6) pe_int (nomark _)) pa_nil))) pa_nil)))) (pv 3)) pe_str) (pe_call FQ.ok hr (by rfl) FQ.m FQ.kp FQ.b .nil pass0 (pa_cons (pv 0) (pa_cons (pe_ix ix_tup (pv 1) pe_int (fun _ _ => rfl)) (pa_cons (pe_op op_add (pv 6) pe_int) pa_nil)))))))))))))))))
      (pss_cons (ps_if (PW.pt (pw_or (pt_cmpR op_lt (pe_call FL.ok hr1 (by rfl) FL.m FL.kp FL.b .nil pass0 (pa_cons (pv 1) pa_nil)) (pv 2) (nomark _)) (pw_or1 (pt_cmpR op_eq (pe_call FD.ok hr1 (by rfl) FD.m FD.kp FD.b .nil pass0 (pa_cons (pv 0) (pa_cons pe_int pa_nil))) pe_int (nomark _)))))
      (pss_one (ps_ret (pe_op op_add_str (pe_op op_add_str pe_str (pv 4)) pe_str)))
      pss_nil)
      (pss_one (ps_ret (pv 4))))))), ?_⟩
    have tvs := tv
    have hd : Dr n t := dr
    have h6 : DrL 6 t := Dr.more hd (show n ≤ 5 by omega)
    have lmn := lm_le n (by omega)
    cases t
    case' num x =>
      rw [TV] at tv
      obtain ⟨p, rfl, hp⟩ := tv
      refine ⟨_, rfl, p, _, _, _, rfl, rfl, SqT.of hp, atI_nat (j := 0) rfl, _, rfl, three_le, fun u nu => ⟨u, _, rfl, .inr (SqT.of upd_same), rfl, rfl, _, rfl, iteT ?_⟩⟩
      have y1 := (Bs.refl hB).new (o := .tup [.str "number", .str "string", .str "name"]) nu
      refine ⟨_, rfl, .ref p, _, 0, rfl, tvs.bs hB y1, h6, by decide, fun H1 s1 => ?_⟩
      have yE := y1.same s1
      have hm : x ≤ 99999 := by cases hd with | num h => exact h
      have ok : Ok (lvl (.num x)) (.num x) (core (.num x)) (2 * n + 1) (n + 1) := by rw [core]; exact Ok.num hm
      have ln : (core (.num x)).length ≤ 3 * lm n + 17 := by rw [core]; exact Nat.le_trans (numT_dig hm).2.1 (by omega)
      rw [wr0]
    case' str x =>
      rw [TV] at tv
      obtain ⟨p, rfl, hp⟩ := tv
      refine ⟨_, rfl, p, _, _, _, rfl, rfl, SqT.of hp, atI_nat (j := 0) rfl, _, rfl, three_le, fun u nu => ⟨u, _, rfl, .inr (SqT.of upd_same), rfl, rfl, _, rfl, iteT ?_⟩⟩
      have y1 := (Bs.refl hB).new (o := .tup [.str "number", .str "string", .str "name"]) nu
      refine ⟨_, rfl, .ref p, _, 0, rfl, tvs.bs hB y1, h6, by decide, fun H1 s1 => ?_⟩
      have yE := y1.same s1
      have hm : x.length ≤ 12 ∧ ∀ c ∈ x, mayB c = true := by cases hd with | str h k => exact ⟨h, k⟩
      have ok : Ok (lvl (.str x)) (.str x) (core (.str x)) (2 * n + 1) (n + 1) := by rw [core]; exact Ok.str (by omega) hm.2
      have ln : (core (.str x)).length ≤ 3 * lm n + 17 := by rw [core]; simp only [List.length_append, List.length_cons, List.length_nil]; omega
      rw [wr0]
    case' name x =>
      rw [TV] at tv
      obtain ⟨p, rfl, hp⟩ := tv
      refine ⟨_, rfl, p, _, _, _, rfl, rfl, SqT.of hp, atI_nat (j := 0) rfl, _, rfl, three_le, fun u nu => ⟨u, _, rfl, .inr (SqT.of upd_same), rfl, rfl, _, rfl, iteT ?_⟩⟩
      have y1 := (Bs.refl hB).new (o := .tup [.str "number", .str "string", .str "name"]) nu
      refine ⟨_, rfl, .ref p, _, 0, rfl, tvs.bs hB y1, h6, by decide, fun H1 s1 => ?_⟩
      have yE := y1.same s1
      have hm : nmB x = true ∧ x.length ≤ 6 := by cases hd with | name h k => exact ⟨h, k⟩
      have ok : Ok (lvl (.name x)) (.name x) (core (.name x)) (2 * n + 1) (n + 1) := by rw [core]; exact Ok.name hm.1
      have ln : (core (.name x)).length ≤ 3 * lm n + 17 := by rw [core]; omega
      rw [wr0]
    case' call g as =>
      rw [TV] at tv
      obtain ⟨p, ar, ws, rfl, hp, ha, tvs', hl5⟩ := tv
      have wl := TVs.len tvs'
      have nm := wcall_name dr
      have ng : nmB g = true := by cases hd with | call h _ _ _ => exact h
      refine ⟨_, rfl, p, _, _, _, rfl, rfl, SqT.of hp, atI_nat (j := 0) rfl, _, rfl, three_le, fun u nu => ⟨u, _, rfl, .inr (SqT.of upd_same), rfl, rfl, _, rfl, iteF ⟨_, rfl, rfl, _, rfl, iteT ?_⟩⟩⟩
      have y1 := (Bs.refl hB).new (o := .tup [.str "number", .str "string", .str "name"]) nu
      have hp1 := Bs.tup y1 hB _ _ hp
      have ha1 := Bs.tup y1 hB _ _ ha
      refine ⟨_, rfl, p, _, _, _, rfl, rfl, SqT.of hp1, atI_nat (j := 1) rfl, _, _, rfl, rfl, addLe (n := 3) (SLe nm.1) (litLe (by decide +kernel)) (by decide), ⟨_, rfl⟩, _, rfl, p, _, _, _, rfl, rfl, SqT.of hp1, atI_nat (j := 2) rfl, ar, rfl, ⟨_, SqT.of ha1⟩, fun D nD => ?_⟩
      refine lc_tup (K := K) (a := ar) (xs := ws) (fun i H' => ∃ (m' : Nat) (Ls : List (List Nat)), Bs b d ds H H' m' ∧ H' D = some (.lst ((Ls.map S).map V.str)) ∧ Paired (fun L t => Ok 0 t L (2 * n) n ∧ L.length ≤ lm n) Ls (as.take i)) ⟨m, [], y1.new nD, upd_same, .nil⟩ (fun i H' _ ⟨m', Ls, y, _, _⟩ => SqT.of (Bs.tup y hB _ _ ha)) (fun i x H' hx ⟨m', Ls, y, eD, pr⟩ => ?_) (fun H' ⟨m', Ls, yE, eD, pr⟩ => ?_)
      · obtain ⟨u9, hu, tu⟩ := TVs.get tvs' hx
        refine ⟨rfl, ?_⟩
        refine ⟨_, rfl, _, rfl, b, d, ds, m', x, u9, 0, rfl, y.box, tu.bs hB y, drl_kid dr (List.mem_of_getElem? hu), by omega, by decide, fun H3 L3 m3 y3 ok3 ln3 => ?_⟩
        refine ⟨_, y3.bx _ _ (y1.nb nD) eD, ?_, m3, Ls ++ [L3], (y.trans y3).wr hB (y1.free D nD), ?_, ?_⟩
        · rw [List.length_map, List.length_map, Paired.length pr, List.length_take]
          exact Nat.lt_of_le_of_lt (Nat.le_trans (Nat.min_le_right _ _) hl5) (by decide)
        · rw [upd_same, List.map_append, List.map_append]; rfl
        · rw [List.take_add_one, hu]
          exact K1.Paired.snoc pr ⟨ok3, ln3⟩
      rw [wl, List.take_length] at pr
      obtain ⟨oL, lL9⟩ := okL_join pr
      have pl : Ls.length = as.length := Paired.length pr
      have l3 : Ls.length * (lm n + 1) ≤ 3 * (lm n + 1) := Nat.mul_le_mul_right _ (by omega)
      have ej : Txt.join (Str.ofString ",") (Ls.map S) = S (joinN [44] Ls) := joinS [44] Ls
      have jl : (((Ls.map S).map (·.length)).sum + (Ls.map S).length * (Str.ofString ",").length) ≤ 16777216 := by
        have h1 : ∀ y ∈ Ls.map S, y.length ≤ lm n := fun y hy => by
          obtain ⟨L, hL, rfl⟩ := List.mem_map.mp hy
          rw [S_len]
          obtain ⟨i, hi⟩ := List.getElem?_of_mem hL
          exact (pairGetL pr hi).elim fun _ z => z.2
        have h2 := sum_le h1
        have h3 : (Ls.map S).length ≤ 3 := by rw [List.length_map]; omega
        have h4 : (Ls.map S).length * lm n ≤ 3 * 2420 := Nat.mul_le_mul h3 lmn
        have h5 : (Ls.map S).length * (Str.ofString ",").length ≤ 3 * 1 := Nat.mul_le_mul h3 (by decide)
        omega
      refine ⟨_, D, Ls.map S, rfl, rfl, .inl (SqL.of eD), jl, ?_⟩
      rw [ej]
      have la : (joinN [44] Ls).length ≤ 8000 := by omega
      refine ⟨_, _, rfl, rfl, addLe (appLe (n := 3) (SLe nm.1) (litLe (by decide +kernel))) (SLe la) (by decide), _, _, rfl, rfl, addLe (n := 1) (appLe (appLe (n := 3) (SLe nm.1) (litLe (by decide +kernel))) (SLe la)) (litLe (by decide +kernel)) (by decide), ?_⟩
      have e : S g ++ Str.ofString " ( " ++ S (joinN [44] Ls) ++ Str.ofString ")" = S (g ++ (B 1 ++ ([40] ++ (B 1 ++ (joinN [44] Ls ++ [41]))))) := by
        show S g ++ S [32, 40, 32] ++ S (joinN [44] Ls) ++ S [41] = _
        rw [S_app, S_app, S_app]
        simp only [List.append_assoc]
        rfl
      rw [e]
      have ok := (Ok.call (f := g) 1 1 ng oL (fun t ht => by have := drl_hgt (drl_kid dr (show t ∈ kids (.call g as) from ht)); omega)).more (p' := 2 * n + 1) (b' := n + 1) (by omega) (by omega)
      have ln : (g ++ (B 1 ++ ([40] ++ (B 1 ++ (joinN [44] Ls ++ [41]))))).length ≤ 3 * lm n + 17 := by
        simp only [List.length_append, List.length_cons, List.length_nil, B, List.length_replicate]
        omega
    case' seq x9 y9 =>
      rw [TV] at tv
      obtain ⟨p, va, vb, rfl, hp, ta, tb⟩ := tv
      have da : DrL n x9 := drl_kid dr (by show x9 ∈ [x9, y9]; simp)
      have db : DrL n y9 := drl_kid dr (by show y9 ∈ [x9, y9]; simp)
      refine ⟨_, rfl, p, _, _, _, rfl, rfl, SqT.of hp, atI_nat (j := 0) rfl, _, rfl, three_le, fun u nu => ⟨u, _, rfl, .inr (SqT.of upd_same), rfl, rfl, _, rfl, iteF ⟨_, rfl, rfl, _, rfl, iteF ⟨_, rfl, rfl, _, rfl, iteT ?_⟩⟩⟩⟩
      have y1 := (Bs.refl hB).new (o := .tup [.str "number", .str "string", .str "name"]) nu
      refine ⟨_, rfl, _, rfl, p, _, _, _, rfl, rfl, SqT.of (Bs.tup y1 hB _ _ hp), atI_nat (j := 1) rfl, b, d, ds, _, va, x9, 0, rfl, y1.box, ta.bs hB y1, da, by omega, by decide, fun H1 L1 m1 z1 ok1 ln1 => ?_⟩
      have y2 := y1.trans z1
      have a1 := Nat.le_trans ln1 lmn
      have l1 := appLe (m := 1) (x := Str.ofString "(") (litLe (by decide +kernel)) (SLe a1)
      have l2 := appLe l1 (n := 1) (y := Str.ofString ";") (litLe (by decide +kernel))
      refine ⟨_, _, rfl, rfl, addLe (m := 1) (litLe (by decide +kernel)) (SLe a1) (by decide), _, _, rfl, rfl, addLe (n := 1) l1 (litLe (by decide +kernel)) (by decide), ?_⟩
      refine ⟨_, rfl, _, rfl, p, _, _, _, rfl, rfl, SqT.of (Bs.tup y2 hB _ _ hp), atI_nat (j := 2) rfl, b, d, ds, _, vb, y9, 0, rfl, y2.box, tb.bs hB y2, db, by omega, by decide, fun H2 L2 m2 z2 ok2 ln2 => ?_⟩
      have yE := y2.trans z2
      have a2 := Nat.le_trans ln2 lmn
      refine ⟨_, _, rfl, rfl, addLe l2 (SLe a2) (by decide), _, _, rfl, rfl, addLe (n := 1) (appLe l2 (SLe a2)) (litLe (by decide +kernel)) (by decide), ?_⟩
      have e : Str.ofString "(" ++ S L1 ++ Str.ofString ";" ++ S L2 ++ Str.ofString ")" = S ([40] ++ (B 0 ++ ((L1 ++ ([59] ++ (B 0 ++ L2))) ++ [41]))) := by
        show S [40] ++ S L1 ++ S [59] ++ S L2 ++ S [41] = _
        rw [S_app, S_app, S_app, S_app]
        simp only [List.append_assoc]
        rfl
      rw [e]
      have ok := ((OkS.cons 0 ok1 (OkS.one ok2) (by have := drl_hgt da; omega) (by have := drl_hgt db; omega)).par 0).more (p' := 2 * n + 1) (b' := n + 1) (by omega) (by omega)
      have ln : ([40] ++ (B 0 ++ ((L1 ++ ([59] ++ (B 0 ++ L2))) ++ [41]))).length ≤ 3 * lm n + 17 := by
        simp only [List.length_append, List.length_cons, List.length_nil, B, List.length_replicate]
        omega
    case' ite x9 y9 z9 =>
      rw [TV] at tv
      obtain ⟨p, va, vb, vc, rfl, hp, ta, tb, tc⟩ := tv
      have da : DrL n x9 := drl_kid dr (by show x9 ∈ [x9, y9, z9]; simp)
      have db : DrL n y9 := drl_kid dr (by show y9 ∈ [x9, y9, z9]; simp)
      have dc : DrL n z9 := drl_kid dr (by show z9 ∈ [x9, y9, z9]; simp)
      refine ⟨_, rfl, p, _, _, _, rfl, rfl, SqT.of hp, atI_nat (j := 0) rfl, _, rfl, three_le, fun u nu => ⟨u, _, rfl, .inr (SqT.of upd_same), rfl, rfl, _, rfl, iteF ⟨_, rfl, rfl, _, rfl, iteF ⟨_, rfl, rfl, _, rfl, iteF ⟨_, rfl, rfl, _, rfl, iteT ?_⟩⟩⟩⟩⟩
      have y1 := (Bs.refl hB).new (o := .tup [.str "number", .str "string", .str "name"]) nu
      refine ⟨_, rfl, _, rfl, p, _, _, _, rfl, rfl, SqT.of (Bs.tup y1 hB _ _ hp), atI_nat (j := 1) rfl, b, d, ds, _, va, x9, 0, rfl, y1.box, ta.bs hB y1, da, by omega, by decide, fun H1 L1 m1 z1 ok1 ln1 => ?_⟩
      have y2 := y1.trans z1
      have a1 := Nat.le_trans ln1 lmn
      have l1 := appLe (m := 3) (x := Str.ofString "if ") (litLe (by decide +kernel)) (SLe a1)
      have l2 := appLe l1 (n := 6) (y := Str.ofString " then ") (litLe (by decide +kernel))
      refine ⟨_, _, rfl, rfl, addLe (m := 3) (litLe (by decide +kernel)) (SLe a1) (by decide), _, _, rfl, rfl, addLe (n := 6) l1 (litLe (by decide +kernel)) (by decide), ?_⟩
      refine ⟨_, rfl, _, rfl, p, _, _, _, rfl, rfl, SqT.of (Bs.tup y2 hB _ _ hp), atI_nat (j := 2) rfl, b, d, ds, _, vb, y9, 0, rfl, y2.box, tb.bs hB y2, db, by omega, by decide, fun H2 L2 m2 z2 ok2 ln2 => ?_⟩
      have y3 := y2.trans z2
      have a2 := Nat.le_trans ln2 lmn
      have l3 := appLe l2 (SLe a2)
      have l4 := appLe l3 (n := 6) (y := Str.ofString " else ") (litLe (by decide +kernel))
      refine ⟨_, _, rfl, rfl, addLe l2 (SLe a2) (by decide), _, _, rfl, rfl, addLe (n := 6) l3 (litLe (by decide +kernel)) (by decide), ?_⟩
      refine ⟨_, rfl, _, rfl, p, _, _, _, rfl, rfl, SqT.of (Bs.tup y3 hB _ _ hp), atI_nat (j := 3) rfl, b, d, ds, _, vc, z9, 0, rfl, y3.box, tc.bs hB y3, dc, by omega, by decide, fun H3 L3 m3 z3 ok3 ln3 => ?_⟩
      have yE := y3.trans z3
      have a3 := Nat.le_trans ln3 lmn
      refine ⟨_, _, rfl, rfl, addLe l4 (SLe a3) (by decide), ?_⟩
      have e : Str.ofString "if " ++ S L1 ++ Str.ofString " then " ++ S L2 ++ Str.ofString " else " ++ S L3 = S (code "if " ++ (L1 ++ (code " then " ++ (L2 ++ (code " else " ++ L3))))) := by
        show S (code "if ") ++ S L1 ++ S (code " then ") ++ S L2 ++ S (code " else ") ++ S L3 = _
        rw [S_app, S_app, S_app, S_app, S_app]
        simp only [List.append_assoc]
      rw [e]
      have ok := (Ok.ite ok1 ok2 ok3 (by have := drl_hgt da; omega) (by have := drl_hgt db; omega) (by have := drl_hgt dc; omega)).more (p' := 2 * n + 1) (b' := n + 1) (by omega) (by omega)
      have eI : (code "if ").length = 3 := by decide +kernel
      have eT : (code " then ").length = 6 := by decide +kernel
      have eE : (code " else ").length = 6 := by decide +kernel
      have ln : (code "if " ++ (L1 ++ (code " then " ++ (L2 ++ (code " else " ++ L3))))).length ≤ 3 * lm n + 17 := by
        simp only [List.length_append, List.length_cons, List.length_nil]
        omega
    case' set y9 t9 =>
      rw [TV] at tv
      obtain ⟨p, va, rfl, hp, ta⟩ := tv
      have da : DrL n t9 := drl_kid dr (by show t9 ∈ [t9]; simp)
      have hm : nmB y9 = true ∧ y9.length ≤ 6 := by cases hd with | set h k _ => exact ⟨h, k⟩
      refine ⟨_, rfl, p, _, _, _, rfl, rfl, SqT.of hp, atI_nat (j := 0) rfl, _, rfl, three_le, fun u nu => ⟨u, _, rfl, .inr (SqT.of upd_same), rfl, rfl, _, rfl, iteF ⟨_, rfl, rfl, _, rfl, iteF ⟨_, rfl, rfl, _, rfl, iteF ⟨_, rfl, rfl, _, rfl, iteF ⟨_, rfl, rfl, _, rfl, iteT ?_⟩⟩⟩⟩⟩⟩
      have y1 := (Bs.refl hB).new (o := .tup [.str "number", .str "string", .str "name"]) nu
      have l1 := appLe (m := 4) (x := Str.ofString "set ") (litLe (by decide +kernel)) (SLe hm.2)
      have l2 := appLe l1 (n := 1) (y := Str.ofString "=") (litLe (by decide +kernel))
      refine ⟨_, rfl, p, _, _, _, rfl, rfl, SqT.of (Bs.tup y1 hB _ _ hp), atI_nat (j := 1) rfl, _, _, rfl, rfl, addLe (m := 4) (litLe (by decide +kernel)) (SLe hm.2) (by decide), _, _, rfl, rfl, addLe (n := 1) l1 (litLe (by decide +kernel)) (by decide), ?_⟩
      refine ⟨_, rfl, _, rfl, p, _, _, _, rfl, rfl, SqT.of (Bs.tup y1 hB _ _ hp), atI_nat (j := 2) rfl, b, d, ds, _, va, t9, 0, rfl, y1.box, ta.bs hB y1, da, by omega, by decide, fun H1 L1 m1 z1 ok1 ln1 => ?_⟩
      have yE := y1.trans z1
      have a1 := Nat.le_trans ln1 lmn
      refine ⟨_, _, rfl, rfl, addLe l2 (SLe a1) (by decide), ?_⟩
      have e : Str.ofString "set " ++ S y9 ++ Str.ofString "=" ++ S L1 = S (code "set " ++ (y9 ++ (B 0 ++ ([61] ++ (B 0 ++ L1))))) := by
        show S (code "set ") ++ S y9 ++ S [61] ++ S L1 = _
        rw [S_app, S_app, S_app]
        simp only [List.append_assoc]
        rfl
      rw [e]
      have ok := (Ok.set 0 0 hm.1 ok1 (by have := drl_hgt da; omega)).more (p' := 2 * n + 1) (b' := n + 1) (by omega) (by omega)
      have eS : (code "set ").length = 4 := by decide +kernel
      have ln : (code "set " ++ (y9 ++ (B 0 ++ ([61] ++ (B 0 ++ L1))))).length ≤ 3 * lm n + 17 := by
        simp only [List.length_append, List.length_cons, List.length_nil, B, List.length_replicate]
        omega
    case' op c x9 y9 =>
      rw [TV] at tv
      obtain ⟨p, va, vb, rfl, hp, ta, tb, hc9⟩ := tv
      have hcc := hc9
      have da : DrL n x9 := drl_kid dr (by show x9 ∈ [x9, y9]; simp)
      have db : DrL n y9 := drl_kid dr (by show y9 ∈ [x9, y9]; simp)
      simp only [List.mem_cons, List.not_mem_nil, or_false] at hc9
      rcases hc9 with rfl | rfl | rfl | rfl | rfl
      all_goals (
        refine ⟨_, rfl, p, _, _, _, rfl, rfl, SqT.of hp, atI_nat (j := 0) rfl, _, rfl, three_le, fun u nu => ⟨u, _, rfl, .inr (SqT.of upd_same), rfl, rfl, _, rfl, iteF ⟨_, rfl, rfl, _, rfl, iteF ⟨_, rfl, rfl, _, rfl, iteF ⟨_, rfl, rfl, _, rfl, iteF ⟨_, rfl, rfl, _, rfl, iteF ?_⟩⟩⟩⟩⟩⟩
        have y1 := (Bs.refl hB).new (o := .tup [.str "number", .str "string", .str "name"]) nu
        refine ⟨_, rfl, .ref p, _, rfl, tvs.bs hB y1, fun H0 s0 => ?_⟩
        have y0 := y1.same s0
        refine ⟨_, rfl, _, rfl, p, _, _, _, rfl, rfl, SqT.of (Bs.tup y0 hB _ _ hp), atI_nat (j := 1) rfl, _, rfl, _, rfl, rfl, .inr ⟨_, rfl, _, _, rfl, rfl, b, d, ds, _, va, x9, lL _, congrArg (V.ref b :: ·) (argLv _ va x9 y9), y0.box, ta.bs hB y0, da, by omega, (lL_le _).1, fun H1 L1 m1 z1 ok1 ln1 => ?_⟩⟩
        have y2 := y0.trans z1
        have a1 := Nat.le_trans ln1 lmn
        have one : ∀ c : Nat, (S [c]).length ≤ 1 := fun c => SLe (Nat.le_refl _)
        have l1 := fun c : Nat => appLe (SLe a1) (one c)
        have l2 := fun c : Nat => appLe (l1 c) (n := 1) (y := Str.ofString " ") (litLe (by decide +kernel))
        refine ⟨_, rfl, _, _, rfl, rfl, addLe (SLe a1) (one _) (by decide), _, _, rfl, rfl, addLe (n := 1) (l1 _) (litLe (by decide +kernel)) (by decide), ?_⟩
        refine ⟨_, rfl, _, rfl, p, _, _, _, rfl, rfl, SqT.of (Bs.tup y2 hB _ _ hp), atI_nat (j := 2) rfl, _, rfl, _, _, rfl, rfl, b, d, ds, _, vb, y9, lR _, congrArg (V.ref b :: ·) (argRv _ vb x9 y9), y2.box, tb.bs hB y2, db, by omega, (lL_le _).2, fun H2 L2 m2 z2 ok2 ln2 => ?_⟩
        have yE := y2.trans z2
        have a2 := Nat.le_trans ln2 lmn
        refine ⟨_, _, rfl, rfl, addLe (l2 _) (SLe a2) (by decide), ?_⟩
        rw [loose_op]
        have ok := (Ok.op 0 1 hcc ok1 ok2 (by have := drl_hgt da; omega) (by have := drl_hgt db; omega)).more (p' := 2 * n + 1) (b' := n + 1) (by omega) (by omega)
        have ln := loose_lenC hcc (show L1.length + L2.length ≤ 3 * lm n by omega))
    all_goals (
      refine ⟨_, rfl, _, _, rfl, tvs.bs hB yE, fun H9 s9 => ?_⟩
      have yF := yE.same s9
      refine ⟨_, rfl, _, _, rfl, rfl, _, rfl, ite2 (fun h => ?_) (fun h => ⟨_, rfl, b, d, ds, _, 8, rfl, yF.box, by decide, fun r h0 h1 => ⟨rfl, _, rfl, ite2 (fun h2 => ?_) (fun h2 => ?_)⟩⟩)⟩
      · refine ⟨_, rfl, _, _, rfl, rfl, addLe (m := 2) (litLe (by decide +kernel)) (SLe ln) (by omega), _, _, rfl, rfl, addLe (n := 1) (appLe (m := 2) (litLe (by decide +kernel)) (SLe ln)) (litLe (by decide +kernel)) (by omega), ?_⟩
        rw [par_text]
        exact q _ _ _ yF (ok_paren ok hl) (par_len ln)
      · refine ⟨_, rfl, _, _, rfl, rfl, addLe (m := 2) (litLe (by decide +kernel)) (SLe ln) (by omega), _, _, rfl, rfl, addLe (n := 1) (appLe (m := 2) (litLe (by decide +kernel)) (SLe ln)) (litLe (by decide +kernel)) (by omega), ?_⟩
        rw [par_text]
        exact q _ _ _ yF.draw (ok_paren ok hl) (par_len ln)
      · have nl := fun z => h (decide_eq_true (Int.ofNat_lt.mpr z))
        exact ⟨_, rfl, q _ _ _ yF.draw ((ok.down (Nat.le_of_not_lt nl)).more (by omega) (Nat.le_refl _)) (Nat.le_trans ln (by rw [lm]; omega))⟩)
theorem ok_loose {f f1 f2 f3 : Addr} {fd fd1 fd2 fd3 : FuncData} (F : Fun K "_law_loose" "_law_loose" sLoose f fd) (T : Txt K mg) (m : mg "_law_loose" = some (.ref f)) (kp : PySem.W.keepIn K (.ref f) = true) (b : Binds K fd ["box", "tree", "least"] [])
    (FW : FO P w K mg base CX0 20 "_law_write" ["tree", "least"] (spWO 6) f1 fd1)
    (FL : FO P w K mg base CX0 1 "_law_level" ["tree"] spLev f2 fd2) (FD : FO P w K mg base CX0 1 "_law_draw" ["box", "many"] spDraw f3 fd3) :
    ∀ n, FO P w K mg base CX0 (20 + n) "_law_loose" ["box", "tree", "least"] (spLO n) f fd
  | 0 => ⟨m, kp, b, fun vs H Q E h => by obtain ⟨b, d, ds, m, v, t, l, rfl, _⟩ := h; rfl, fun A outer s H args us vs Q E hr e b v h => by obtain ⟨b, d, ds, m, v, t, l, rfl, _, _, dr, _⟩ := h; exact dr.elim⟩
  | n + 1 => ⟨m, kp, b, ok_loose1 F T (show 20 ≤ 20 + n by omega) (ok_loose F T m kp b FW FL FD n) FW FL FD⟩
end
end K3

set_option maxRecDepth 100000
set_option maxHeartbeats 8000000
/-! what the law asks, beside -/
namespace K3
open PySem hiding Tok code
open PySem.Spec PyProof.Rows GD K1
open L2 hiding rest
open K2 hiding Sp P
theorem op_rep_str {X : Cx} : OpR X (binaryOp .Mult) (fun x y H Q => ∃ (z : Str) (n : Int), x = .str z ∧ y = .int n ∧ (decide (n < -(2 ^ 63 : Int)) || decide (n ≥ 2 ^ 63)) = false ∧
    ¬ ((z.length : Int) > (2 ^ 63 - 1) / n) ∧ Builtin.Str.tooLong (z.length * n.toNat) = false ∧ (n == 1 || z.length == 0) = false ∧ ¬ n < 1 ∧
    (⟨(List.replicate n.toNat z.cps).foldl (· ++ ·) #[]⟩ : Str).length ≤ sizeLine ∧ Q (.str ⟨(List.replicate n.toNat z.cps).foldl (· ++ ·) #[]⟩) H) := by
  intro pins s σ H x y v u Q I rx ry h
  obtain ⟨z, n, rfl, rfl, h1, h2, h3, h4, h5, h6, q⟩ := h
  obtain ⟨t, rfl⟩ := rx
  obtain ⟨t', rfl⟩ := ry
  refine PySem.P.mul_str h1 (fun _ _ => h2) (fun _ _ => h3) ?_
  rw [if_neg h5, if_neg (by rw [h4]; exact Bool.false_ne_true)]
  exact ⟨h6, ⟨.str _, H, I.tok _, ⟨_, rfl⟩, q⟩⟩
/-! ### split gives good tokens -/
theorem lexC_good {c : Nat} {r : List Nat} {t : Tok} {k : Nat} (h : lexC c r = some (t, k)) : good t := by
  unfold lexC at h
  by_cases h1 : c ∈ LET
  · rw [if_pos h1] at h
    split at h
    · rename_i h2
      cases h
      have hp := run_pos (r := r) h1
      have hl := run_le LET (c :: r)
      have el : ((c :: r).take (run LET (c :: r))).length = run LET (c :: r) := by rw [List.length_take]; omega
      refine ⟨fun e => ?_, by omega, fun x hx => mem_run hx⟩
      rw [e] at el
      simp at el
      omega
    · cases h
  rw [if_neg h1] at h
  by_cases h2 : c ∈ DIG
  · rw [if_pos h2] at h
    split at h
    · rename_i h3
      cases h
      have := val_small (ds := (c :: r).take (run DIG (c :: r))) (fun x hx => mem_run hx) (by rw [List.length_take]; omega)
      show _ ≤ 99999
      omega
    · cases h
  rw [if_neg h2] at h
  by_cases h3 : c = 34
  · rw [if_pos h3] at h
    split at h
    · rename_i h4
      cases h
      exact ⟨by rw [List.length_take]; omega, fun x hx => List.all_eq_true.mp h4.2.2 x hx⟩
    · cases h
  rw [if_neg h3] at h
  split at h
  · rename_i h4
    cases h
    exact h4
  · cases h
theorem lex_good {l : List Nat} {o : Option (List Tok)} (h : Lex l o) : ∀ ts, o = some ts → (∀ t ∈ ts, good t) ∧ ts.length ≤ l.length := by
  induction h with
  | nil => intro ts e; cases e; exact ⟨fun t ht => (by cases ht), Nat.le_refl _⟩
  | sp _ ih => intro ts e; obtain ⟨h1, h2⟩ := ih ts e; exact ⟨h1, Nat.le_succ_of_le h2⟩
  | bad _ _ => intro ts e; cases e
  | @tok c r t k o _ hc _ ih =>
    intro ts e
    cases o with
    | none => cases e
    | some us =>
      have e : t :: us = ts := Option.some.inj e
      subst e
      obtain ⟨h1, h2⟩ := ih us rfl
      have hk := lexC_pos hc
      refine ⟨fun x hx => ?_, ?_⟩
      · rcases List.mem_cons.mp hx with rfl | hx
        · exact lexC_good hc
        · exact h1 x hx
      · rw [List.length_drop] at h2
        simp only [List.length_cons] at h2 ⊢
        omega
theorem wordFit {l : List Nat} (h : good (.word l)) : Fit (.str (S l)) 0 62 := by
  refine Fit.strS (n := 6) h.2.1 fun c hc => ?_
  have g := h.2.2 c hc
  have : ∀ c ∈ LET, c < 1000 := by decide
  exact this c g
theorem strFit {l : List Nat} {n : Nat} (h : l.length ≤ n) (k : ∀ c ∈ l, mayB c = true) : Fit (.str (S l)) 0 (10 * n + 2) := Fit.strS h fun c hc => by
  have := k c hc
  unfold mayB at this
  have := of_decide_eq_true this
  omega
theorem tok_fit {t : Tok} (h : good t) : Fit (tokD t) 1 500 := by
  cases t with
  | word l => exact (Fit.tup (k := 0) (B := 202) (mem2 ((litFit "word" (by decide +kernel)).more (Nat.le_refl _) (by decide)) ((wordFit h).more (Nat.le_refl _) (by decide)))).more (Nat.le_refl _) (show 2 * 204 + 4 ≤ 500 by decide)
  | num n => exact (Fit.tup (k := 0) (B := 202) (mem2 ((litFit "number" (by decide +kernel)).more (Nat.le_refl _) (by decide)) ((Fit.num h).more (Nat.le_refl _) (by decide)))).more (Nat.le_refl _) (show 2 * 204 + 4 ≤ 500 by decide)
  | str l => exact (Fit.tup (k := 0) (B := 202) (mem2 ((litFit "string" (by decide +kernel)).more (Nat.le_refl _) (by decide)) ((strFit h.1 h.2).more (Nat.le_refl _) (by decide)))).more (Nat.le_refl _) (show 2 * 204 + 4 ≤ 500 by decide)
  | sign c =>
    have hs : ∀ c ∈ SGN, (decide ((S [c]).length ≤ 6) && (S [c]).cps.toList.all fun c => decide (c < 1000)) = true := by decide +kernel
    exact (Fit.tup (k := 0) (B := 202) (mem2 ((litFit "sign" (by decide +kernel)).more (Nat.le_refl _) (by decide)) ((litFit _ (hs c h)).more (Nat.le_refl _) (by decide)))).more (Nat.le_refl _) (show 2 * 204 + 4 ≤ 500 by decide)
/-- a list of good tokens may be parsed -/
theorem TokAt.of {H : Hp} {D : Addr} {vs : List V} {ts : List Tok} (h1 : H D = some (.lst vs)) (h2 : TokL H vs ts) (h3 : ∀ t ∈ ts, good t) (h4 : ts.length ≤ 5000) : TokAt H D vs ts :=
  ⟨h1, h2, h4, fun t ht => (tok_fit (h3 t ht)).shaped (by decide), fun l hl => by have := (h3 _ hl).2.1; omega⟩
theorem read_ok {l : List Nat} {p : Tr → Bool} (h : (match readT l with | some (some t) => p t | _ => false) = true) : ∃ ts t, Lex l (some ts) ∧ parseM ts = some t ∧ p t = true := by
  have lx := lexF_ok l.length l (Nat.le_refl _)
  unfold readT at h
  cases e : lexF l.length l with
  | none => rw [e] at h; cases h
  | some ts =>
    rw [e] at h lx
    have h : (match some (parseM ts) with | some (some t) => p t | _ => false) = true := h
    cases e2 : parseM ts with
    | none => rw [e2] at h; cases h
    | some t => rw [e2] at h; exact ⟨ts, t, lx, e2, h⟩
theorem read_no {l : List Nat} (h : (match readT l with | some none => true | _ => false) = true) : ∃ ts, Lex l (some ts) ∧ parseM ts = none := by
  have lx := lexF_ok l.length l (Nat.le_refl _)
  unfold readT at h
  cases e : lexF l.length l with
  | none => rw [e] at h; cases h
  | some ts =>
    rw [e] at h lx
    have h : (match some (parseM ts) with | some none => true | _ => false) = true := h
    cases e2 : parseM ts with
    | none => exact ⟨ts, lx, e2⟩
    | some t => rw [e2] at h; cases h
/-! ### the signs of canonical texts -/
def Sm (l : List Nat) : Bool := l.all fun c => decide (c < 1000)
theorem sm_app (a b : List Nat) : Sm (a ++ b) = (Sm a && Sm b) := List.all_append
theorem sm_of {l : List Nat} (h : ∀ c ∈ l, c < 1000) : Sm l = true := List.all_eq_true.mpr fun c hc => decide_eq_true (h c hc)
theorem sm_inPar {b : Bool} {l : List Nat} (h : Sm l = true) : Sm (inPar b l) = true := by
  unfold inPar
  split
  · rw [sm_app, sm_app, h]; rfl
  · exact h
theorem sm_name {l : List Nat} (h : nmB l = true) : Sm l = true := sm_of fun c hc => by
  have g := (nmB_good h).2.2 c hc
  have : ∀ c ∈ LET, c < 1000 := by decide
  exact this c g
theorem core_chars {d : Nat} {t : Tr} (h : Dr d t) : Sm (core t) = true ∧ Sm (rest t) = true := by
  have eI : Sm (code "if ") = true := by decide +kernel
  have eT : Sm (code " then ") = true := by decide +kernel
  have eE : Sm (code " else ") = true := by decide +kernel
  have eS : Sm (code "set ") = true := by decide +kernel
  induction h with
  | @num d n h =>
    have : Sm (numT n) = true := sm_of fun c hc => by have := (numT_dig h).2.2.1 c hc; have := dig_range this; omega
    rw [rest, core]; exact ⟨this, this⟩
  | @str d l h k =>
    have : Sm ([34] ++ l ++ [34]) = true := by
      rw [sm_app, sm_app, sm_of (l := l) fun c hc => by have := k c hc; unfold mayB at this; have := of_decide_eq_true this; omega]
      rfl
    rw [rest, core]; exact ⟨this, this⟩
  | @name d l h k => rw [rest, core]; exact ⟨sm_name h, sm_name h⟩
  | @call d f as h k l hs ih =>
    have q : ∀ {as : List Tr}, (∀ t ∈ as, Sm (core t) = true) → Sm (coreM as) = true := fun {as} => by
      induction as with
      | nil => intro _; rw [coreM]; rfl
      | cons t as i =>
        intro hh
        rw [coreM, sm_app, sm_app, hh t (by simp), i fun x hx => hh x (List.mem_cons_of_mem _ hx)]
        rfl
    have h3 : Sm (coreL as) = true := by
      cases as with
      | nil => rw [coreL]; rfl
      | cons t as =>
        rw [coreL, sm_app, (ih t (by simp)).1, q (as := as) fun x hx => (ih x (List.mem_cons_of_mem _ hx)).1]
        rfl
    have a : Sm (f ++ ([40] ++ (coreL as ++ [41]))) = true := by rw [sm_app, sm_app, sm_app, sm_name h, h3]; rfl
    rw [rest, core]
    exact ⟨a, a⟩
  | @ite d x y z hx hy hz i j k =>
    have a : Sm (code "if " ++ (core x ++ (code " then " ++ (core y ++ (code " else " ++ core z))))) = true := by rw [sm_app, sm_app, sm_app, sm_app, sm_app, eI, eT, eE, i.1, j.1, k.1]; rfl
    rw [rest, core]
    exact ⟨a, a⟩
  | @set d x t h k ht i =>
    have a : Sm (code "set " ++ (x ++ ([32, 61, 32] ++ core t))) = true := by rw [sm_app, sm_app, sm_app, eS, sm_name h, i.1]; rfl
    rw [rest, core]
    exact ⟨a, a⟩
  | @seq d x y hx hy i j =>
    rw [rest, core]
    exact ⟨by rw [sm_app, sm_app, sm_app, sm_app, i.1, j.2]; rfl, by rw [sm_app, sm_app, i.1, j.2]; rfl⟩
  | @op d c x y hc hx hy i j =>
    have hs : ∀ c ∈ [42, 43, 45, 60, 61], Sm [32, c, 32] = true := by decide
    have a : Sm (inPar (decide (lvl x < lL c)) (core x) ++ ([32, c, 32] ++ inPar (decide (lvl y < lR c)) (core y))) = true := by rw [sm_app, sm_app, sm_inPar i.1, sm_inPar j.1, hs c hc]; rfl
    rw [rest, core]
    exact ⟨a, a⟩
theorem core_fit {t : Tr} (h : Dr 4 t) : Fit (.str (S (core t))) 0 60000 := by
  have l := (core_sm (n := 5) (t := t) h (by decide)).1
  exact (Fit.strS (n := 5822) l fun c hc => of_decide_eq_true (List.all_eq_true.mp (core_chars h).1 c hc)).more (Nat.le_refl _) (by decide)
/-! ### what is kept -/
/-- all is kept but two tables -/
structure KT (PN PV : Addr) (H H' : Hp) : Prop where
  tn : GxR.TabG H' PN
  tv : GxR.TabG H' PV
  kp : ∀ b o, b ≠ PN → b ≠ PV → H b = some o → H' b = some o
section
variable {PN PV : Addr} {H H' H2 : Hp}
theorem tab_kp {P R : Addr} (t : GxR.TabG H R) (k : Kp P H H') : GxR.TabG H' R := by
  by_cases e : R = P
  · rw [e]; exact k.1
  · obtain ⟨ps, h, r⟩ := t
    exact ⟨ps, k.2 _ _ e h, r⟩
theorem tab_same {R : Addr} (t : GxR.TabG H R) (s : Same H H') : GxR.TabG H' R := by
  obtain ⟨ps, h, r⟩ := t
  exact ⟨ps, s _ _ h, r⟩
theorem KT.refl (h1 : GxR.TabG H PN) (h2 : GxR.TabG H PV) : KT PN PV H H := ⟨h1, h2, fun _ _ _ _ h => h⟩
theorem KT.trans (x : KT PN PV H H') (y : KT PN PV H' H2) : KT PN PV H H2 := ⟨y.tn, y.tv, fun b o n m h => y.kp b o n m (x.kp b o n m h)⟩
theorem KT.pn (x : KT PN PV H H') (k : Kp PN H' H2) : KT PN PV H H2 := ⟨tab_kp x.tn k, tab_kp x.tv k, fun b o n m h => k.2 b o n (x.kp b o n m h)⟩
theorem KT.pv (x : KT PN PV H H') (k : Kp PV H' H2) : KT PN PV H H2 := ⟨tab_kp x.tn k, tab_kp x.tv k, fun b o n m h => k.2 b o m (x.kp b o n m h)⟩
theorem KT.same (x : KT PN PV H H') (s : Same H' H2) : KT PN PV H H2 := ⟨tab_same x.tn s, tab_same x.tv s, fun b o n m h => s b o (x.kp b o n m h)⟩
theorem KT.new {l : Addr} {o : HO} (x : KT PN PV H H') (n : H' l = none) : KT PN PV H (upd H' l o) := x.same (Same.lst (Same.refl _) n)
theorem tab_ne {P b : Addr} {o : HO} (t : GxR.TabG H P) (h : H b = some o) (ho : ∀ ps, o ≠ .tbl ps) : b ≠ P := fun e => by
  obtain ⟨ps, h2, _⟩ := t
  rw [e, h2] at h
  exact ho ps (Option.some.inj h).symm
theorem KT.lst {b : Addr} {xs : List V} (x : KT PN PV H H') (h1 : GxR.TabG H PN) (h2 : GxR.TabG H PV) (h : H b = some (.lst xs)) : H' b = some (.lst xs) :=
  x.kp b _ (tab_ne h1 h (by intro ps z; cases z)) (tab_ne h2 h (by intro ps z; cases z)) h
theorem KT.tup {b : Addr} {xs : List V} (x : KT PN PV H H') (h1 : GxR.TabG H PN) (h2 : GxR.TabG H PV) (h : H b = some (.tup xs)) : H' b = some (.tup xs) :=
  x.kp b _ (tab_ne h1 h (by intro ps z; cases z)) (tab_ne h2 h (by intro ps z; cases z)) h
end
theorem alikeOk {d : PyData} {k B : Nat} (f : Fit d k B) (hn : d ≠ .none) (hk : k ≤ 60) (hB : B ≤ 16000000) : d ≠ .none ∧ d.showable = true ∧ d.hasDict = false ∧ d.depth ≤ 60 ∧ d.shown.length ≤ sizeLine :=
  ⟨hn, f.sh, f.nd, Nat.le_trans f.dp hk, Nat.le_trans f.ln (Nat.le_trans hB (by decide))⟩
end K3

set_option maxRecDepth 100000
set_option maxHeartbeats 8000000
/-! the law's own: _law_bounds -/
namespace K3
open PySem hiding Tok code
open PySem.Spec PyProof.Rows GD K1
open L2 hiding rest
open K2 hiding Sp P
abbrev sBounds : Stmt := topS 53
section
variable {P : Program} {w : World} {K : PySem.W.Frag} {mg : Str → Option Value} {base : Heap} {PN PV : Addr}
/-- behind split(text) -/
theorem ps_tok {H0 H H1 : Hp} {L : List Nat} {ts : List Tok} {D : Addr} {vs : List V} (lx : Lex L (some ts)) (hl : L.length ≤ 5000) (kt : KT PN PV H0 H) (kp : Kp PV H H1) (eD : H1 D = some (.lst vs)) (tk : TokL H1 vs ts) :
    KT PN PV H0 H1 ∧ TokAt H1 D vs ts := by
  obtain ⟨g1, g2⟩ := lex_good lx ts rfl
  exact ⟨kt.pv kp, TokAt.of eD tk g1 (by omega)⟩
theorem strArg {z : Str} {L : List Nat} (h : z = S L) : [V.str z] ++ [] = [V.str (S L)] := by rw [h]; rfl
theorem isA_eq {t : Tr} (h : isA t = true) : t = .name [97] := by
  cases t with
  | name l =>
    have : l = [97] := by simpa [isA] using h
    rw [this]
  | _ => cases h
theorem TV.isRef {H : Hp} {t : Tr} {v : V} (h : TV H t v) : ∃ q, v = .ref q := by
  cases t <;> (rw [TV] at h; obtain ⟨q, h⟩ := h)
  all_goals first | exact ⟨q, h.1⟩ | (obtain ⟨_, h⟩ := h; first | exact ⟨q, h.1⟩ | (obtain ⟨_, h⟩ := h; first | exact ⟨q, h.1⟩ | (obtain ⟨_, h⟩ := h; exact ⟨q, h.1⟩)))
theorem not_ok {A B : Prop} {c : Bool} (e : c = true) (h : B) : if (!c) = true then A else B := by rw [e]; exact iteF h
theorem tt_ok {A B : Prop} {c : Bool} (e : c = true) (h : A) : if c = true then A else B := by rw [e]; exact iteT h
theorem ff_ok {A B : Prop} {c : Bool} (e : c = false) (h : B) : if c = true then A else B := by rw [e]; exact iteF h
def spBounds (PN PV : Addr) : L2.Sp := fun vs H Q _ => vs = [] ∧ GxR.TabG H PN ∧ GxR.TabG H PV ∧ ∀ H', KT PN PV H H' → Q (.bl true) H'
theorem scBounds : FnScope ["deep", "high", "turn", "text", "row"] [] (defScope sBounds) := ⟨rfl, rfl, rfl, by decide +kernel, rfl, by decide +kernel, by decide +kernel⟩
theorem ok_bounds {f f1 f2 f3 : Addr} {fd fd1 fd2 fd3 : FuncData} (F : Fun K "_law_bounds" "_law_bounds" sBounds f fd) (T : Txt K mg)
    (FP : FO P w K mg base CX0 154 "parse" ["tokens"] (spParse PN) f1 fd1) (FS : FO P w K mg base CX0 5 "split" ["line"] (spSplit PV) f2 fd2) (FH : FO P w K mg base CX0 15 "height" ["tree"] (spHt 13) f3 fd3) :
    FnOk P w K mg base CX0 155 f fd [] (spBounds PN PV) := by
  have sc := scBounds
  refine F.ok sc (fun vs H Q E h => ?_) (fun cdv A outer s H vs Q E hr h => ?_)
  · obtain ⟨rfl, _⟩ := h
    rfl
  · obtain ⟨rfl, tn, tv, q⟩ := h
    have hrS := hr.mono (show 5 ≤ 154 by decide)
    have hrH := hr.mono (show 15 ≤ 154 by decide)
    refine ⟨_, (pss_cons (ps_set (i := 0) sc.nd rfl (Or.inl rfl) (pe_tup (pa_cons pe_str (pa_cons pe_str pa_nil))))
      (pss_cons (ps_set (i := 1) sc.nd rfl (Or.inl rfl) (pe_tup (pa_cons pe_str (pa_cons pe_str pa_nil))))
      (pss_cons (ps_for PassesOwn.never rfl (pi_range1 rfl T.range (pa_cons pe_int pa_nil)) (pg_name (i := 2) sc.nd rfl (Or.inl rfl))
      (pss_one (ps_set (i := 1) sc.nd rfl (Or.inl rfl) (pe_tup (pa_cons pe_str (pa_cons (pe_tup (pa_cons pe_str (pa_cons pe_int pa_nil))) (pa_cons (pv 1) pa_nil)))))))
      (pss_cons (ps_set (i := 3) sc.nd rfl (Or.inl rfl) (pe_op op_add_str (pe_op op_add_str (pe_op op_rep_str pe_str pe_int) pe_str) (pe_op op_rep_str pe_str pe_int)))
      (pss_cons (ps_if (PW.pt (pw_or (pt_cmpR (op_neD hr.units) (pe_call FP.ok hr (by rfl) FP.m FP.kp FP.b .nil pass0 (pa_cons (pe_call FS.ok hrS (by rfl) FS.m FS.kp FS.b .nil pass0 (pa_cons (pv 3) pa_nil)) pa_nil)) (pv 0) (nomark _)) (pw_or (pt_cmpR op_notN (pe_call FP.ok hr (by rfl) FP.m FP.kp FP.b .nil pass0 (pa_cons (pe_call FS.ok hrS (by rfl) FS.m FS.kp FS.b .nil pass0 (pa_cons (pe_op op_add_str (pe_op op_add_str pe_str (pv 3)) pe_str) pa_nil)) pa_nil)) pe_non (nomark _)) (pw_or1 (pt_cmpR op_isN (pe_call FP.ok hr (by rfl) FP.m FP.kp FP.b .nil pass0 (pa_cons (pe_call FS.ok hrS (by rfl) FS.m FS.kp FS.b .nil pass0 (pa_cons (pe_op op_add_str (pe_op op_rep_str pe_str pe_int) (pe_op op_rep_str pe_str pe_int)) pa_nil)) pa_nil)) pe_non (nomark _))))))
      (pss_one (ps_ret pe_bl))
      pss_nil)
      (pss_cons (ps_if (PW.pt (pw_or (pt_cmpR op_notN (pe_call FP.ok hr (by rfl) FP.m FP.kp FP.b .nil pass0 (pa_cons (pe_call FS.ok hrS (by rfl) FS.m FS.kp FS.b .nil pass0 (pa_cons (pe_op op_add_str (pe_op op_rep_str pe_str pe_int) (pe_op op_rep_str pe_str pe_int)) pa_nil)) pa_nil)) pe_non (nomark _)) (pw_or1 (pt_cmpR op_ne (pe_call FH.ok hrH (by rfl) FH.m FH.kp FH.b .nil pass0 (pa_cons (pv 1) pa_nil)) pe_int (nomark _)))))
      (pss_one (ps_ret pe_bl))
      pss_nil)
      (pss_cons (ps_set (i := 4) sc.nd rfl (Or.inl rfl) (pe_op op_add_str pe_str (pe_op op_rep_str pe_str pe_int)))
      (pss_one (ps_ret (pe_and (pe_cmpR op_eq (pe_call FH.ok hrH (by rfl) FH.m FH.kp FH.b .nil pass0 (pa_cons (pe_call FP.ok hr (by rfl) FP.m FP.kp FP.b .nil pass0 (pa_cons (pe_call FS.ok hrS (by rfl) FS.m FS.kp FS.b .nil pass0 (pa_cons (pv 4) pa_nil)) pa_nil)) pa_nil)) pe_int (nomark _)) (pe_one (pe_cmpR op_isN (pe_call FP.ok hr (by rfl) FP.m FP.kp FP.b .nil pass0 (pa_cons (pe_call FS.ok hrS (by rfl) FS.m FS.kp FS.b .nil pass0 (pa_cons (pe_op op_add_str (pv 4) pe_str) pa_nil)) pa_nil)) pe_non (nomark _))))))))))))), ?_⟩
    refine ⟨two_le, fun p1 n1 => ⟨two_le, fun p2 n2 => ?_⟩⟩
    have kt1 := ((KT.refl tn tv).new (o := .tup [V.str "name", V.str "a"]) n1).new (o := .tup [V.str "name", V.str "a"]) n2
    have n12 : p1 ≠ p2 := ne_of_none (upd_same (H := H) (a := p1) (o := .tup [V.str "name", V.str "a"])) n2
    have e1 : upd (upd H p1 (.tup [V.str "name", V.str "a"])) p2 (.tup [V.str "name", V.str "a"]) p1 = some (.tup [V.str "name", V.str "a"]) := by rw [upd_ne n12, upd_same]
    refine ⟨_, rfl, by decide, by decide, for_range (lo := 0) (n := 11) (fun i σ H' => ∃ v t y2, σ = [some (.ref p1), some v, y2, none, none] ∧ KT PN PV H H' ∧ H' p1 = some (.tup [V.str "name", V.str "a"]) ∧ TV H' t v ∧ hgt t = i + 1)
      ⟨_, .name [97], none, rfl, kt1, e1, (by rw [TV]; exact ⟨p2, rfl, upd_same⟩), (by rw [hgt])⟩ ?_ ?_⟩
    · rintro i σ Ha hi ⟨v, t, y2, rfl, kt, ep, tv9, ht⟩
      refine ⟨two_le, fun q1 nq1 => ⟨_, rfl, three_le, fun q2 nq2 => ?_⟩⟩
      refine ⟨_, .op 43 (.num 1) t, _, rfl, (kt.new nq1).new nq2, newtup nq2 _ _ (newtup nq1 _ _ ep), ?_, by rw [hgt, hgt, ht]; omega⟩
      rw [TV]
      refine ⟨q2, .ref q1, v, rfl, upd_same, ?_, TV.imp (newtup nq2) t v (TV.imp (newtup nq1) t v tv9), by decide⟩
      rw [TV]
      exact ⟨q1, rfl, newtup nq2 _ _ upd_same⟩
    rintro σ Ha ⟨vh, th, y2, rfl, kt, ep, tvh, ht⟩
    have ht : hgt th = 12 := ht
    refine ⟨_, _, rfl, rfl, by decide, by decide, by decide, by decide, by decide, by decide, _, _, rfl, rfl, by decide, _, _, rfl, rfl, by decide, by decide, by decide, by decide, by decide, by decide, _, _, rfl, rfl, by decide, ?_⟩
    obtain ⟨ts1, t1, lx1, pm1, pt1⟩ := read_ok (l := deepT 10) (p := isA) deep_ok
    obtain ⟨ts2, lx2, pm2⟩ := read_no (l := deepT 11) deep_no
    obtain ⟨ts3, t3, lx3, pm3, pt3⟩ := read_ok (l := callsT 10) (p := fun _ => true) calls_ok
    obtain ⟨ts4, lx4, pm4⟩ := read_no (l := callsT 11) calls_no
    obtain ⟨ts5, t5, lx5, pm5, pt5⟩ := read_ok (l := rowT 11) (p := fun t => hgt t == 12) row_ok
    obtain ⟨ts6, lx6, pm6⟩ := read_no (l := rowT 12) row_no
    have kt0 := KT.refl kt.tn kt.tv
    refine ⟨_, rfl, deepT 10, some _, strArg (by decide +kernel), by decide +kernel, kt0.tv, lx1, fun H1a k1a => ⟨(fun e => by cases e), fun ts' D1 vs1 e nD1 eD1 tk1 => ?_⟩⟩
    cases e
    obtain ⟨kt1a, ta1⟩ := ps_tok lx1 (by decide +kernel) kt0 k1a eD1 tk1
    refine ⟨D1, vs1, ts1, rfl, ta1, kt1a.tn, (fun e => by rw [e] at pm1; cases pm1), fun t e v H1 k1 tv1 _ => ?_⟩
    have kt1 := kt1a.pn k1
    obtain rfl : t = t1 := Option.some.inj (e.symm.trans pm1)
    obtain rfl := isA_eq pt1
    refine ⟨_, rfl, _, _, TV.dp _ _ tv1, .tup (SqT.of (kt1.tup kt.tn kt.tv ep)) (.cons (.str _) (.cons (.str _) .nil)), by decide +kernel, by decide +kernel, _, rfl, not_ok (by decide +kernel) ?_⟩
    refine ⟨_, rfl, _, _, rfl, rfl, by decide, _, _, rfl, rfl, by decide, deepT 11, some _, strArg (by decide +kernel), by decide +kernel, kt1.tv, lx2, fun H2a k2a => ⟨(fun e => by cases e), fun ts' D2 vs2 e nD2 eD2 tk2 => ?_⟩⟩
    cases e
    obtain ⟨kt2a, ta2⟩ := ps_tok lx2 (by decide +kernel) kt1 k2a eD2 tk2
    refine ⟨D2, vs2, ts2, rfl, ta2, kt2a.tn, (fun e H2 k2 => ?_), fun t e v => by rw [e] at pm2; cases pm2⟩
    have kt2 := kt2a.pn k2
    refine ⟨rfl, _, rfl, iteF ?_⟩
    refine ⟨_, _, rfl, rfl, by decide, by decide, by decide, by decide, by decide, by decide, _, _, rfl, rfl, by decide, by decide, by decide, by decide, by decide, by decide, _, _, rfl, rfl, by decide, callsT 10, some _, strArg (by decide +kernel), by decide +kernel, kt2.tv, lx3, fun H3a k3a => ⟨(fun e => by cases e), fun ts' D3 vs3 e nD3 eD3 tk3 => ?_⟩⟩
    cases e
    obtain ⟨kt3a, ta3⟩ := ps_tok lx3 (by decide +kernel) kt2 k3a eD3 tk3
    refine ⟨D3, vs3, ts3, rfl, ta3, kt3a.tn, (fun e => by rw [e] at pm3; cases pm3), fun t e v H3 k3 tv3 _ => ?_⟩
    have kt3 := kt3a.pn k3
    obtain ⟨q3, rfl⟩ := TV.isRef tv3
    refine ⟨rfl, _, rfl, iteF ?_⟩
    refine ⟨_, _, rfl, rfl, by decide, by decide, by decide, by decide, by decide, by decide, _, _, rfl, rfl, by decide, by decide, by decide, by decide, by decide, by decide, _, _, rfl, rfl, by decide, callsT 11, some _, strArg (by decide +kernel), by decide +kernel, kt3.tv, lx4, fun H4a k4a => ⟨(fun e => by cases e), fun ts' D4 vs4 e nD4 eD4 tk4 => ?_⟩⟩
    cases e
    obtain ⟨kt4a, ta4⟩ := ps_tok lx4 (by decide +kernel) kt3 k4a eD4 tk4
    refine ⟨D4, vs4, ts4, rfl, ta4, kt4a.tn, (fun e H4 k4 => ?_), fun t e v => by rw [e] at pm4; cases pm4⟩
    have kt4 := kt4a.pn k4
    refine ⟨rfl, _, rfl, iteF ?_⟩
    refine ⟨_, rfl, vh, th, rfl, TV.imp (fun q xs h => kt4.tup kt.tn kt.tv h) th vh tvh, by omega, fun H5 s5 => ?_⟩
    have kt5 := kt4.same s5
    have e12 : hI th = 12 := by unfold hI; rw [ht]; rfl
    rw [e12]
    refine ⟨rfl, _, rfl, iteF ?_⟩
    refine ⟨_, _, rfl, rfl, by decide, by decide, by decide, by decide, by decide, by decide, _, _, rfl, rfl, by decide, ?_⟩
    refine ⟨_, rfl, rowT 11, some _, strArg (by decide +kernel), by decide +kernel, kt5.tv, lx5, fun H6a k6a => ⟨(fun e => by cases e), fun ts' D6 vs6 e nD6 eD6 tk6 => ?_⟩⟩
    cases e
    obtain ⟨kt6a, ta6⟩ := ps_tok lx5 (by decide +kernel) kt5 k6a eD6 tk6
    refine ⟨D6, vs6, ts5, rfl, ta6, kt6a.tn, (fun e => by rw [e] at pm5; cases pm5), fun t e v H6 k6 tv6 _ => ?_⟩
    have kt6 := kt6a.pn k6
    obtain rfl : t = t5 := Option.some.inj (e.symm.trans pm5)
    have h12 : hgt t = 12 := by simpa using pt5
    refine ⟨v, t, rfl, tv6, by omega, fun H7 s7 => ?_⟩
    have kt7 := kt6.same s7
    have e12 : hI t = 12 := by unfold hI; rw [h12]; rfl
    rw [e12]
    refine ⟨rfl, _, rfl, iteT ?_⟩
    refine ⟨_, rfl, _, _, rfl, rfl, by decide, rowT 12, some _, strArg (by decide +kernel), by decide +kernel, kt7.tv, lx6, fun H8a k8a => ⟨(fun e => by cases e), fun ts' D8 vs8 e nD8 eD8 tk8 => ?_⟩⟩
    cases e
    obtain ⟨kt8a, ta8⟩ := ps_tok lx6 (by decide +kernel) kt7 k8a eD8 tk8
    refine ⟨D8, vs8, ts6, rfl, ta8, kt8a.tn, (fun e H8 k8 => ?_), fun t e v => by rw [e] at pm6; cases pm6⟩
    have kt8 := kt8a.pn k8
    exact ⟨rfl, q _ (kt.trans kt8)⟩
end
end K3

set_option maxRecDepth 100000
set_option maxHeartbeats 16000000
/-! the law -/
namespace K3
open PySem hiding Tok code
open PySem.Spec PyProof.Rows GD K1
open L2 hiding rest
open K2 hiding Sp P
abbrev sLaw : Stmt := topS 54
/-- the box, the tables -/
structure LJ (b d PN PV : Addr) (ds : List Int) (H : Hp) (n : Nat) : Prop where
  box : Box H b d ds n
  tn : GxR.TabG H PN
  tv : GxR.TabG H PV
/-- all is kept but the box and the tables -/
def KB (b PN PV : Addr) (H H' : Hp) : Prop := ∀ q o, q ≠ b → q ≠ PN → q ≠ PV → H q = some o → H' q = some o
section
variable {b d PN PV : Addr} {ds : List Int} {H H' H2 : Hp} {n n' : Nat}
theorem KB.refl : KB b PN PV H H := fun _ _ _ _ _ h => h
theorem KB.trans (x : KB b PN PV H H') (y : KB b PN PV H' H2) : KB b PN PV H H2 := fun q o h1 h2 h3 h => y q o h1 h2 h3 (x q o h1 h2 h3 h)
theorem LJ.nbn (x : LJ b d PN PV ds H n) : b ≠ PN := tab_ne x.tn x.box.1 (by intro ps z; cases z)
theorem LJ.nbv (x : LJ b d PN PV ds H n) : b ≠ PV := tab_ne x.tv x.box.1 (by intro ps z; cases z)
theorem LJ.kn (x : LJ b d PN PV ds H n) (k : Kp PN H H') : LJ b d PN PV ds H' n ∧ KB b PN PV H H' :=
  ⟨⟨⟨k.2 _ _ x.nbn x.box.1, k.2 _ _ (tab_ne x.tn x.box.2.1 (by intro ps z; cases z)) x.box.2.1, x.box.2.2⟩, tab_kp x.tn k, tab_kp x.tv k⟩, fun q o _ h2 _ h => k.2 q o h2 h⟩
theorem LJ.kv (x : LJ b d PN PV ds H n) (k : Kp PV H H') : LJ b d PN PV ds H' n ∧ KB b PN PV H H' :=
  ⟨⟨⟨k.2 _ _ x.nbv x.box.1, k.2 _ _ (tab_ne x.tv x.box.2.1 (by intro ps z; cases z)) x.box.2.1, x.box.2.2⟩, tab_kp x.tn k, tab_kp x.tv k⟩, fun q o _ _ h3 h => k.2 q o h3 h⟩
theorem LJ.kt (x : LJ b d PN PV ds H n) (k : KT PN PV H H') : LJ b d PN PV ds H' n ∧ KB b PN PV H H' :=
  ⟨⟨⟨k.kp _ _ x.nbn x.nbv x.box.1, k.lst x.tn x.tv x.box.2.1, x.box.2.2⟩, k.tn, k.tv⟩, fun q o _ h2 h3 h => k.kp q o h2 h3 h⟩
theorem LJ.same (x : LJ b d PN PV ds H n) (s : Same H H') : LJ b d PN PV ds H' n ∧ KB b PN PV H H' :=
  ⟨⟨⟨s _ _ x.box.1, s _ _ x.box.2.1, x.box.2.2⟩, tab_same x.tn s, tab_same x.tv s⟩, fun q o _ _ _ h => s q o h⟩
theorem LJ.new {l : Addr} {o : HO} (x : LJ b d PN PV ds H n) (nl : H l = none) : LJ b d PN PV ds (upd H l o) n ∧ KB b PN PV H (upd H l o) := x.same (Same.lst (Same.refl _) nl)
theorem LJ.bs (x : LJ b d PN PV ds H n) (y : Bs b d ds H H' n') : LJ b d PN PV ds H' n' ∧ KB b PN PV H H' := by
  have tab : ∀ {R}, GxR.TabG H R → GxR.TabG H' R := fun {R} t => by
    have ne := tab_ne t x.box.1 (by intro ps z; cases z)
    obtain ⟨ps, h, r⟩ := t
    exact ⟨ps, y.bx _ _ ne.symm h, r⟩
  exact ⟨⟨y.box, tab x.tn, tab x.tv⟩, fun q o h1 _ _ h => y.bx q o h1 h⟩
theorem LJ.draw (x : LJ b d PN PV ds H n) : LJ b d PN PV ds (upd H b (.lst [.ref d, .int ((n + 1 : Nat) : Int)])) (n + 1) ∧ KB b PN PV H (upd H b (.lst [.ref d, .int ((n + 1 : Nat) : Int)])) := x.bs (Bs.refl x.box).draw
theorem KB.tup (k : KB b PN PV H H') (x : LJ b d PN PV ds H n) : ∀ q xs, H q = some (.tup xs) → H' q = some (.tup xs) := fun q xs h =>
  k q _ (ne_of h x.box.1 (by intro z; cases z)) (tab_ne x.tn h (by intro ps z; cases z)) (tab_ne x.tv h (by intro ps z; cases z)) h
theorem KB.lst {D : Addr} {xs : List V} (k : KB b PN PV H H') (x : LJ b d PN PV ds H n) (nb : D ≠ b) (h : H D = some (.lst xs)) : H' D = some (.lst xs) :=
  k D _ nb (tab_ne x.tn h (by intro ps z; cases z)) (tab_ne x.tv h (by intro ps z; cases z)) h
theorem LJ.nb {l : Addr} (x : LJ b d PN PV ds H n) (nl : H l = none) : l ≠ b := fun z => by rw [z, x.box.1] at nl; cases nl
theorem TokL.kb {vs : List V} {ts : List Tok} (h : TokL H vs ts) (k : KB b PN PV H H') (x : LJ b d PN PV ds H n) : TokL H' vs ts := h.imp fun q t hq => k.tup x q _ hq
end
theorem dropLast_paired {α β : Type} {R : α → β → Prop} {l : List α} {m : List β} (h : Paired R l m) : Paired R l.dropLast m.dropLast := by
  induction h with
  | nil => exact .nil
  | @cons a b l m r t ih =>
    cases t with
    | nil => exact .nil
    | cons r2 t2 => exact .cons r ih
theorem cut_last (xs : List V) : cutV xs none (some (-1)) = xs.dropLast := by
  unfold cutV
  have e1 : HT.sIx xs.length 0 none = 0 := rfl
  have e2 : HT.sIx xs.length xs.length (some (-1)) = xs.length - 1 := by
    show (if (-1 : Int) < 0 then ((-1 : Int) + (xs.length : Int)).toNat else min (-1 : Int).toNat xs.length) = _
    rw [if_pos (by decide)]
    omega
  rw [e1, e2, List.drop_zero, Nat.sub_zero, List.dropLast_eq_take]
theorem lvl_4 (t : Tr) : lvl t ≤ 4 := by
  cases t <;> simp only [lvl] <;> (try unfold lvlO) <;> (repeat' split) <;> omega
def nsM : List (List Nat) := [[97], [98], [120, 121]]
def csM : List (List Nat × Nat) := [([102], 0), ([103], 1), ([104], 3)]
def badsM : List Str := ["set let = 1", "(a;)", "(;a)", "f(;)", "f(a;b", "if a then b", "set a", "a b", "let(1)", "set 1 = a", "f(1,,2)", "set f(1) = 2"]
theorem more_good : ∀ t ∈ moreM, good t := by
  have : ∀ t ∈ moreM, (match t with | .word l => decide (l ≠ [] ∧ l.length ≤ 6 ∧ ∀ c ∈ l, c ∈ LET) | .num n => decide (n ≤ 99999) | .str l => decide (l.length ≤ 20) && l.all mayB | .sign c => decide (c ∈ SGN)) = true := by decide +kernel
  intro t ht
  have h := this t ht
  cases t with
  | word l => exact (of_decide_eq_true h : l ≠ [] ∧ l.length ≤ 6 ∧ ∀ c ∈ l, c ∈ LET)
  | num n => exact (of_decide_eq_true h : n ≤ 99999)
  | str l =>
    have h : (decide (l.length ≤ 20) && l.all mayB) = true := h
    rw [Bool.and_eq_true] at h
    exact ⟨of_decide_eq_true h.1, fun c hc => List.all_eq_true.mp h.2 c hc⟩
  | sign c => exact (of_decide_eq_true h : c ∈ SGN)
section
variable {P : Program} {w : World} {K : PySem.W.Frag} {mg : Str → Option Value} {base : Heap} {PN PV : Addr}
def spLaw (K : PySem.W.Frag) (PN PV : Addr) : L2.Sp := fun vs H Q _ => ∃ (a : Addr) (ns : List Int), vs = [.ref a] ∧ SqL K H a (ns.map V.int) ∧ GxR.TabG H PN ∧ GxR.TabG H PV ∧ PN ≠ PV ∧ ∀ H', Q (.bl true) H'
theorem scLaw : FnScope ["script", "box", "turn", "tree", "text", "tokens", "loose", "more", "bad"] ["script"] (defScope sLaw) := ⟨rfl, rfl, rfl, by decide +kernel, rfl, by decide +kernel, by decide +kernel⟩
theorem ok_law {f fd1 fd2 fd3 fd4 fd5 fd6 fd7 fd8 fd9 fd10 fd11 fal : Addr} {fd g1 g2 g3 g4 g5 g6 g7 g8 g9 g10 g11 dal : FuncData} (F : Fun K "law" "law" sLaw f fd) (T : Txt K mg) (R : ∃ t, mg "NESTED_MOST" = some (.int 10 t)) (R2 : ∃ t, mg "HEIGHT_MOST" = some (.int 12 t))
    (GD1 : FO P w K mg base CX0 2 "_law_digits" ["script", "first", "last"] (spDigits K) fd1 g1) (GR : FO P w K mg base CX0 1 "_law_draw" ["box", "many"] spDraw fd2 g2)
    (GT : FO P w K mg base CX0 7 "_law_tree" ["box", "names", "calls", "depth"] (spTr 5) fd3 g3) (GW : FO P w K mg base CX0 20 "_law_write" ["tree", "least"] (spWO 6) fd4 g4)
    (GWr : FO P w K mg base CX0 20 "write" ["tree"] (spW 6) fd5 g5) (GH : FO P w K mg base CX0 20 "height" ["tree"] (spHt 13) fd6 g6) (GLH : FO P w K mg base CX0 20 "_law_height" ["tree"] (spLH 6) fd7 g7)
    (GS : FO P w K mg base CX0 20 "split" ["line"] (spSplit PV) fd8 g8) (GP : FO P w K mg base CX0 154 "parse" ["tokens"] (spParse PN) fd9 g9) (GL : FO P w K mg base CX0 30 "_law_loose" ["box", "tree", "least"] (spLO 5) fd10 g10)
    (GB : FO P w K mg base CX0 155 "_law_bounds" [] (spBounds PN PV) fd11 g11)
    (FA : FnG P w K mg base CX0 1 fal dal ["one", "two"] (spAlike K)) (ma : mg "_law_alike" = some (.ref fal)) (ka : PySem.W.keepIn K (.ref fal) = true) (ba : Binds K dal ["one", "two"] []) :
    FnG P w K mg base CX0 156 f fd ["script"] (spLaw K PN PV) := by
  have sc := scLaw
  obtain ⟨tn1, gn1⟩ := R
  obtain ⟨tn2, gn2⟩ := R2
  refine okG F sc (fun vs H Q E h => ?_) (fun cdv A outer s H vs Q E hgd hr h => ?_)
  · obtain ⟨a, ns, rfl, _⟩ := h
    rfl
  · obtain ⟨a, ns, rfl, hS, tn, tv, nPP, q⟩ := h
    have hr1 := hr.mono (show 1 ≤ 155 by decide)
    have hr2 := hr.mono (show 2 ≤ 155 by decide)
    have hrT := hr.mono (show 7 ≤ 155 by decide)
    have hrW := hr.mono (show 20 ≤ 155 by decide)
    have hrL := hr.mono (show 30 ≤ 155 by decide)
    have hrP := hr.mono (show 154 ≤ 155 by decide)
    refine ⟨_, (pss_cons (ps_set (i := 1) sc.nd rfl (Or.inl rfl) (pe_lst (pa_cons (pe_call GD1.ok hr2 (by rfl) GD1.m GD1.kp GD1.b .nil pass0 (pa_cons (pv 0) (pa_cons pe_int (pa_cons pe_int pa_nil)))) (pa_cons pe_int pa_nil))))
      (pss_cons (ps_if (PW.pt (pw_or (pt_cmpR (op_neD hr.units) (pe_tup (pa_cons (pe_gint rfl gn1) (pa_cons (pe_gint rfl gn2) pa_nil))) (pe_tup (pa_cons pe_int (pa_cons pe_int pa_nil))) (nomark _)) (pw_or1 (pt_not (pt_val (pe_call0 GB.ok hr (by rfl) GB.m GB.kp GB.b .nil pass0))))))
      (pss_one (ps_ret pe_bl))
      pss_nil)
      (pss_cons (ps_for PassesOwn.never rfl (pi_range1 rfl T.range (pa_cons pe_int pa_nil)) (pg_name (i := 2) sc.nd rfl (Or.inl rfl))
      (pss_cons (ps_set (i := 3) sc.nd rfl (Or.inl rfl) (pe_call GT.ok hrT (by rfl) GT.m GT.kp GT.b .nil pass0 (pa_cons (pv 1) (pa_cons (pe_lst (pa_cons pe_str (pa_cons pe_str (pa_cons pe_str pa_nil)))) (pa_cons (pe_lst (pa_cons (pe_tup (pa_cons pe_str (pa_cons pe_int pa_nil))) (pa_cons (pe_tup (pa_cons pe_str (pa_cons pe_int pa_nil))) (pa_cons (pe_tup (pa_cons pe_str (pa_cons pe_int pa_nil))) pa_nil)))) (pa_cons pe_int pa_nil))))))
      (pss_cons (ps_set (i := 4) sc.nd rfl (Or.inl rfl) (pe_call GW.ok hrW (by rfl) GW.m GW.kp GW.b .nil pass0 (pa_cons (pv 3) (pa_cons pe_int pa_nil))))
      (pss_cons (ps_if (pt_not (pt_val (pe_callG FA hgd hr1 (by rfl) ma ka ba .nil pass0 (pa_cons (pe_tup (pa_cons (pe_call GWr.ok hrW (by rfl) GWr.m GWr.kp GWr.b .nil pass0 (pa_cons (pv 3) pa_nil)) (pa_cons (pe_call GH.ok hrW (by rfl) GH.m GH.kp GH.b .nil pass0 (pa_cons (pv 3) pa_nil)) pa_nil))) (pa_cons (pe_tup (pa_cons (pv 4) (pa_cons (pe_call GLH.ok hrW (by rfl) GLH.m GLH.kp GLH.b .nil pass0 (pa_cons (pv 3) pa_nil)) pa_nil))) pa_nil)))))
      (pss_one (ps_ret pe_bl))
      pss_nil)
      (pss_cons (ps_set (i := 5) sc.nd rfl (Or.inl rfl) (pe_call GS.ok hrW (by rfl) GS.m GS.kp GS.b .nil pass0 (pa_cons (pv 4) pa_nil)))
      (pss_cons (ps_if (pt_not (pt_val (pe_callG FA hgd hr1 (by rfl) ma ka ba .nil pass0 (pa_cons (pe_call GP.ok hrP (by rfl) GP.m GP.kp GP.b .nil pass0 (pa_cons (pv 5) pa_nil)) (pa_cons (pv 3) pa_nil)))))
      (pss_one (ps_ret pe_bl))
      pss_nil)
      (pss_cons (ps_set (i := 6) sc.nd rfl (Or.inl rfl) (pe_call GS.ok hrW (by rfl) GS.m GS.kp GS.b .nil pass0 (pa_cons (pe_call GL.ok hrL (by rfl) GL.m GL.kp GL.b .nil pass0 (pa_cons (pv 1) (pa_cons (pv 3) (pa_cons pe_int pa_nil)))) pa_nil)))
      (pss_cons (ps_if (pt_not (pt_val (pe_callG FA hgd hr1 (by rfl) ma ka ba .nil pass0 (pa_cons (pe_call GP.ok hrP (by rfl) GP.m GP.kp GP.b .nil pass0 (pa_cons (pv 6) pa_nil)) (pa_cons (pv 3) pa_nil)))))
      (pss_one (ps_ret pe_bl))
      pss_nil)
      (pss_cons (ps_set (i := 7) sc.nd rfl (Or.inl rfl) (pe_ix ix_list (pe_lst (pa_cons (pe_tup (pa_cons pe_str (pa_cons pe_int pa_nil))) (pa_cons (pe_tup (pa_cons pe_str (pa_cons pe_str pa_nil))) (pa_cons (pe_tup (pa_cons pe_str (pa_cons pe_str pa_nil))) (pa_cons (pe_tup (pa_cons pe_str (pa_cons pe_str pa_nil))) (pa_cons (pe_tup (pa_cons pe_str (pa_cons pe_str pa_nil))) (pa_cons (pe_tup (pa_cons pe_str (pa_cons pe_str pa_nil))) pa_nil))))))) (pe_call GR.ok hr1 (by rfl) GR.m GR.kp GR.b .nil pass0 (pa_cons (pv 1) (pa_cons pe_int pa_nil))) (fun _ _ => rfl)))
      (pss_one (ps_if (PW.pt (pw_or (pt_cmpR op_notN (pe_call GP.ok hrP (by rfl) GP.m GP.kp GP.b .nil pass0 (pa_cons (pe_slice sl_list (pv 5) po_none (po_some (pe_un un_neg pe_int))) pa_nil)) pe_non (nomark _)) (pw_or (pt_cmpR op_notN (pe_call GP.ok hrP (by rfl) GP.m GP.kp GP.b .nil pass0 (pa_cons (pe_op op_cat (pv 5) (pe_lst (pa_cons (pv 7) pa_nil))) pa_nil)) pe_non (nomark _)) (pw_or1 (pt_cmpR op_notN (pe_call GP.ok hrP (by rfl) GP.m GP.kp GP.b .nil pass0 (pa_cons (pe_op op_cat (pe_lst (pa_cons (pe_tup (pa_cons pe_str (pa_cons pe_str pa_nil))) pa_nil)) (pv 5)) pa_nil)) pe_non (nomark _))))))
      (pss_one (ps_ret pe_bl))
      pss_nil)))))))))))
      (pss_cons (ps_for PassesOwn.never rfl (pi_list (pe_lst (pa_cons pe_str (pa_cons pe_str (pa_cons pe_str (pa_cons pe_str (pa_cons pe_str (pa_cons pe_str (pa_cons pe_str (pa_cons pe_str (pa_cons pe_str (pa_cons pe_str (pa_cons pe_str (pa_cons pe_str pa_nil)))))))))))))) (pg_name (i := 8) sc.nd rfl (Or.inl rfl))
      (pss_one (ps_if (pt_cmpR op_notN (pe_call GP.ok hrP (by rfl) GP.m GP.kp GP.b .nil pass0 (pa_cons (pe_call GS.ok hrW (by rfl) GS.m GS.kp GS.b .nil pass0 (pa_cons (pv 8) pa_nil)) pa_nil)) pe_non (nomark _))
      (pss_one (ps_ret pe_bl))
      pss_nil)))
      (pss_one (ps_ret (pe_and (pe_cmpR op_isN (pe_call GP.ok hrP (by rfl) GP.m GP.kp GP.b .nil pass0 (pa_cons (pe_lst pa_nil) pa_nil)) pe_non (nomark _)) (pe_and (pe_cmpR op_isN (pe_call GP.ok hrP (by rfl) GP.m GP.kp GP.b .nil pass0 (pa_cons (pe_call GS.ok hrW (by rfl) GS.m GS.kp GS.b .nil pass0 (pa_cons pe_str pa_nil)) pa_nil)) pe_non (nomark _)) (pe_and (pe_cmpR op_isN (pe_call GP.ok hrP (by rfl) GP.m GP.kp GP.b .nil pass0 (pa_cons (pe_call GS.ok hrW (by rfl) GS.m GS.kp GS.b .nil pass0 (pa_cons pe_str pa_nil)) pa_nil)) pe_non (nomark _)) (pe_and (pe_cmpR op_isN (pe_call GP.ok hrP (by rfl) GP.m GP.kp GP.b .nil pass0 (pa_cons (pe_call GS.ok hrW (by rfl) GS.m GS.kp GS.b .nil pass0 (pa_cons pe_str pa_nil)) pa_nil)) pe_non (nomark _)) (pe_one (pe_cmpR op_isN (pe_call GP.ok hrP (by rfl) GP.m GP.kp GP.b .nil pass0 (pa_cons (pe_call GS.ok hrW (by rfl) GS.m GS.kp GS.b .nil pass0 (pa_cons pe_str pa_nil)) pa_nil)) pe_non (nomark _))))))))))))), ?_⟩
    refine ⟨_, rfl, a, ns, rfl, hS, fun H1 d ds s1 nd ed ld => ⟨two_le, fun b nb => ?_⟩⟩
    have l0 : LJ b d PN PV ds (upd H1 b (.lst [.ref d, .int 0])) 0 := ⟨⟨upd_same, by rw [upd_ne (ne_of_none ed nb)]; exact ed, ld⟩, tab_same (tab_same tn s1) (Same.lst (Same.refl H1) nb), tab_same (tab_same tv s1) (Same.lst (Same.refl H1) nb)⟩
    refine ⟨two_le, fun p1 np1 => ⟨two_le, fun p2 np2 => ?_⟩⟩
    have l1 := (l0.new (o := .tup [V.int 10, V.int 12]) np1).1
    have l2 := (l1.new (o := .tup [V.int 10, V.int 12]) np2).1
    have n12 : p1 ≠ p2 := ne_of_none (upd_same (H := upd H1 b (.lst [.ref d, .int 0])) (a := p1) (o := .tup [V.int 10, V.int 12])) np2
    refine ⟨.tuple [.int 10, .int 12], .tuple [.int 10, .int 12], .tup (SqT.of (xs := [V.int 10, V.int 12]) (by rw [upd_ne n12, upd_same])) (.cons (.int _) (.cons (.int _) .nil)), .tup (SqT.of upd_same) (.cons (.int _) (.cons (.int _) .nil)), by decide +kernel, by decide +kernel, _, rfl, not_ok (by decide +kernel) ?_⟩
    refine ⟨rfl, l2.tn, l2.tv, fun H2 kt2 => ⟨_, rfl, iteF ?_⟩⟩
    have l3 := (l2.kt kt2).1
    refine ⟨_, rfl, by decide, by decide, for_range (lo := 0) (n := 6) (fun i σ H' => ∃ (n : Nat) (y2 y3 y4 y5 y6 y7 : Option V), σ = [some (.ref a), some (.ref b), y2, y3, y4, y5, y6, y7, none] ∧ LJ b d PN PV ds H' n)
      ⟨0, none, none, none, none, none, none, rfl, l3⟩ ?_ ?_⟩
    · rintro i σ Ha hi ⟨n, y2, y3, y4, y5, y6, y7, rfl, la⟩
      -- the tree
      refine ⟨_, rfl, three_le, fun ln nln => ⟨two_le, fun t1 nt1 => ⟨two_le, fun t2 nt2 => ⟨two_le, fun t3 nt3 => ⟨three_le, fun lc nlc => ?_⟩⟩⟩⟩⟩
      have la1 := la.new (o := .lst (nsM.map fun l => V.str (S l))) nln
      have la2 := la1.1.new (o := .tup [V.str "f", V.int 0]) nt1
      have la3 := la2.1.new (o := .tup [V.str "g", V.int 1]) nt2
      have la4 := la3.1.new (o := .tup [V.str "h", V.int 3]) nt3
      have la5 := la4.1.new (o := .lst [V.ref t1, V.ref t2, V.ref t3]) nlc
      have kn := la2.2.trans (la3.2.trans (la4.2.trans la5.2))
      have eN := kn.lst la1.1 (la.nb nln) (xs := nsM.map fun l => V.str (S l)) upd_same
      have NN : Nam _ ln nsM := ⟨eN, by decide +kernel, by decide⟩
      have e1 := (la3.2.trans (la4.2.trans la5.2)).tup la2.1 t1 [V.str "f", V.int 0] upd_same
      have e2 := (la4.2.trans la5.2).tup la3.1 t2 [V.str "g", V.int 1] upd_same
      have e3 := la5.2.tup la4.1 t3 [V.str "h", V.int 3] upd_same
      have CC : Cal _ lc csM := ⟨⟨[V.ref t1, V.ref t2, V.ref t3], upd_same, .cons ⟨t1, rfl, e1⟩ (.cons ⟨t2, rfl, e2⟩ (.cons ⟨t3, rfl, e3⟩ .nil))⟩, by decide +kernel, by decide⟩
      refine ⟨b, d, ds, n, ln, lc, nsM, csM, 4, rfl, la5.1.box, NN, CC, by decide, fun Hb v n1 t y1 tvb dr => ?_⟩
      have lb := (la5.1.bs y1).1
      have dr5 : DrL 5 t := dr
      have dr6 : DrL 6 t := drl_up dr5
      have h13 : hgt t ≤ 13 := by have := drl_hgt dr5; omega
      -- text
      refine ⟨_, rfl, v, t, 0, rfl, tvb, dr6, by decide, fun Hc sc1 => ?_⟩
      rw [wr0]
      have lcc := lb.same sc1
      have sm := (core_sm dr5 (by decide)).1
      have cl : (core t).length ≤ 4000 := by
        have := (core_len dr).1
        have e : most 4 = 1934 := by decide
        omega
      -- write, height
      have tvc := TV.imp (lcc.2.tup lb) t v tvb
      refine ⟨_, rfl, v, t, rfl, tvc, dr6, by decide, fun Hd sd1 => ?_⟩
      have ldd := lcc.1.same sd1
      have tvd := TV.imp (ldd.2.tup lcc.1) t v tvc
      refine ⟨_, rfl, v, t, rfl, tvd, h13, fun He se1 => ⟨two_le, fun q1 nq1 => ?_⟩⟩
      have lee := ldd.1.same se1
      have lef := lee.1.new (o := .tup [.str (S (core t)), .int (hI t)]) nq1
      have tve := TV.imp ((lee.2.trans lef.2).tup ldd.1) t v tvd
      refine ⟨_, rfl, _, rfl, v, t, rfl, tve, dr6, by decide, fun Hf sf1 => ⟨two_le, fun q2 nq2 => ?_⟩⟩
      have lff := lef.1.same sf1
      have lgg := lff.1.new (o := .tup [.str (S (core t)), .int (hI t)]) nq2
      have eq1 := (lff.2.trans lgg.2).tup lef.1 q1 [.str (S (core t)), .int (hI t)] upd_same
      have tvg := TV.imp ((lff.2.trans lgg.2).tup lef.1) t v tve
      have hfit : Fit (.int (hI t)) 0 60000 := by
        have := drl_hgt dr5
        exact (Fit.num (n := hgt t) (by omega)).more (Nat.le_refl _) (by decide)
      obtain ⟨o1, o2, o3, o4, o5⟩ := alikeOk (Fit.tup (mem2 (core_fit dr) hfit)) (by intro z; cases z) (by decide) (show 2 * 60002 + 4 ≤ 16000000 by decide)
      refine ⟨.ref q1, .ref q2, .tuple [.str (S (core t)), .int (hI t)], rfl, .tup (SqT.of eq1) (.cons (.str _) (.cons (.int _) .nil)), .tup (SqT.of upd_same) (.cons (.str _) (.cons (.int _) .nil)), o1, o2, o3, o4, o5, _, rfl, iteF ?_⟩
      -- tokens
      obtain ⟨ts, lx, pm⟩ := Ok.lex (core_ok dr (by decide)).1 (by have := lvl_4 t; omega) (by decide) (by decide)
      obtain ⟨gd, gl⟩ := lex_good lx ts rfl
      refine ⟨_, rfl, core t, some ts, rfl, by omega, lgg.1.tv, lx, fun Hh kh => ⟨(fun e => by cases e), fun ts' D vs e nD eD tk => ?_⟩⟩
      cases e
      have lhh := lgg.1.kv kh
      have nDb : D ≠ b := lgg.1.nb nD
      have tvh := TV.imp (lhh.2.tup lgg.1) t v tvg
      -- parse(tokens) is the tree
      refine ⟨_, rfl, D, vs, ts, rfl, TokAt.of eD tk gd (by omega), lhh.1.tn, (fun e => by rw [e] at pm; cases pm), fun t' e v' Hi ki tvi _ => ?_⟩
      obtain rfl : t' = t := Option.some.inj (e.symm.trans pm)
      have lii := lhh.1.kn ki
      have tvi2 := TV.imp (lii.2.tup lhh.1) t' v tvh
      obtain ⟨w1, w2, w3, w4, w5⟩ := alikeOk (dr_fit dr) (by intro z; cases t' <;> (rw [treeD] at z; cases z)) (by decide) (by decide)
      refine ⟨_, rfl, v', v, treeD t', rfl, TV.dp _ _ tvi, TV.dp _ _ tvi2, w1, w2, w3, w4, w5, _, rfl, iteF ?_⟩
      -- loose
      refine ⟨_, rfl, _, rfl, b, d, ds, n1, v, t', 0, rfl, lii.1.box, tvi2, dr5, by decide, by decide, fun Hj L n2 yj okj lnj => ?_⟩
      have ljj := lii.1.bs yj
      obtain ⟨ts2, lx2, pm2⟩ := Ok.lex okj (by decide) (by decide) (by decide)
      obtain ⟨gd2, gl2⟩ := lex_good lx2 ts2 rfl
      have cl2 : L.length ≤ 5000 := by have := lm_le 5 (by decide); omega
      refine ⟨L, some ts2, rfl, cl2, ljj.1.tv, lx2, fun Hk kk => ⟨(fun e => by cases e), fun ts' D2 vs2 e2 nD2 eD2 tk2 => ?_⟩⟩
      cases e2
      have lkk := ljj.1.kv kk
      have tvk := TV.imp ((ljj.2.trans lkk.2).tup lii.1) t' v tvi2
      refine ⟨_, rfl, D2, vs2, ts2, rfl, TokAt.of eD2 tk2 gd2 (by omega), lkk.1.tn, (fun e => by rw [e] at pm2; cases pm2), fun t2 e2 v2 Hl kl tvl _ => ?_⟩
      obtain rfl : t2 = t' := Option.some.inj (e2.symm.trans pm2)
      have lll := lkk.1.kn kl
      refine ⟨_, rfl, v2, v, treeD t2, rfl, TV.dp _ _ tvl, TV.dp _ _ (TV.imp (lll.2.tup lkk.1) t2 v tvk), w1, w2, w3, w4, w5, _, rfl, iteF ?_⟩
      have kD := lii.2.trans (ljj.2.trans (lkk.2.trans lll.2))
      have eD' := kD.lst lhh.1 nDb eD
      have tk' := TokL.kb tk kD lhh.1
      -- more
      refine ⟨two_le, fun m1 k1 => ⟨two_le, fun m2 k2 => ⟨two_le, fun m3 k3 => ⟨two_le, fun m4 k4 => ⟨two_le, fun m5 k5 => ⟨two_le, fun m6 k6 => ⟨by show 6 ≤ sizeLine; decide, fun l9 k9 => ?_⟩⟩⟩⟩⟩⟩⟩
      have x1 := lll.1.new (o := .tup [V.str "number", V.int 1]) k1
      have x2 := x1.1.new (o := .tup [V.str "sign", V.str ")"]) k2
      have x3 := x2.1.new (o := .tup [V.str "sign", V.str "+"]) k3
      have x4 := x3.1.new (o := .tup [V.str "sign", V.str "("]) k4
      have x5 := x4.1.new (o := .tup [V.str "word", V.str "then"]) k5
      have x6 := x5.1.new (o := .tup [V.str "sign", V.str ";"]) k6
      have x7 := x6.1.new (o := .lst [V.ref m1, V.ref m2, V.ref m3, V.ref m4, V.ref m5, V.ref m6]) k9
      refine ⟨_, rfl, b, d, ds, n2, 6, rfl, x7.1.box, by decide, fun r6 h6 h7 => ?_⟩
      have x8 := x7.1.draw
      have j7 := x7.2.trans x8.2
      have j6 := x6.2.trans j7
      have j5 := x5.2.trans j6
      have j4 := x4.2.trans j5
      have j3 := x3.2.trans j4
      have j2 := x2.2.trans j3
      have z1 := j2.tup x1.1 m1 [V.str "number", V.int 1] upd_same
      have z2 := j3.tup x2.1 m2 [V.str "sign", V.str ")"] upd_same
      have z3 := j4.tup x3.1 m3 [V.str "sign", V.str "+"] upd_same
      have z4 := j5.tup x4.1 m4 [V.str "sign", V.str "("] upd_same
      have z5 := j6.tup x5.1 m5 [V.str "word", V.str "then"] upd_same
      have z6 := j7.tup x6.1 m6 [V.str "sign", V.str ";"] upd_same
      have eL := x8.2.lst x7.1 (x6.1.nb k9) (D := l9) (xs := [V.ref m1, V.ref m2, V.ref m3, V.ref m4, V.ref m5, V.ref m6]) upd_same
      have tm : TokL _ [V.ref m1, V.ref m2, V.ref m3, V.ref m4, V.ref m5, V.ref m6] moreM := .cons ⟨m1, rfl, z1⟩ (.cons ⟨m2, rfl, z2⟩ (.cons ⟨m3, rfl, z3⟩ (.cons ⟨m4, rfl, z4⟩ (.cons ⟨m5, rfl, z5⟩ (.cons ⟨m6, rfl, z6⟩ .nil)))))
      obtain ⟨j, rfl, hj⟩ := idx (m := 6) h6 h7
      obtain ⟨tk9, etk⟩ : ∃ z, moreM[j]? = some z := ⟨_, List.getElem?_eq_getElem hj⟩
      have htk := List.mem_of_getElem? etk
      obtain ⟨q9, eq9, hq9⟩ := TokL.get3 tm etk
      refine ⟨l9, _, _, .ref q9, rfl, rfl, SqL.of eL, atI_nat eq9, ?_⟩
      have kA := x1.2.trans j2
      have eD3 := kA.lst lll.1 (D := D) nDb eD'
      have tk3 := TokL.kb tk' kA lll.1
      have G := parseM_gd (ts := ts) (by rw [pm]; intro z; cases z)
      have tl : ts.length ≤ 5000 := by omega
      have vl : vs.length = ts.length := Paired.length tk
      -- a token less
      refine ⟨_, rfl, _, rfl, _, rfl, D, vs, rfl, SqL.of eD3, fun p9 np9 => ?_⟩
      have xa := x8.1.new (o := .lst (cutV vs none (some (-1)))) np9
      refine ⟨p9, vs.dropLast, ts.dropLast, rfl, TokAt.of (by rw [upd_same]; exact congrArg (fun l => some (HO.lst l)) (cut_last vs)) (dropLast_paired (TokL.kb tk3 xa.2 x8.1)) (fun t ht => gd t (List.dropLast_subset ts ht)) (by rw [List.length_dropLast]; omega), xa.1.tn, (fun _ Hm km => ?_), fun t e => by rw [gd_less G] at e; cases e⟩
      have xb := xa.1.kn km
      refine ⟨rfl, _, rfl, iteF ?_⟩
      have kB := xa.2.trans xb.2
      have eD4 := kB.lst x8.1 nDb eD3
      have tk4 := TokL.kb tk3 kB x8.1
      have hq4 := kB.tup x8.1 q9 _ hq9
      -- a token more
      refine ⟨_, rfl, _, rfl, (by show 1 ≤ sizeLine; decide), fun l10 nl10 => ?_⟩
      have xc := xb.1.new (o := .lst [V.ref q9]) nl10
      refine ⟨D, l10, vs, [V.ref q9], rfl, rfl, xc.2.lst xb.1 nDb eD4, upd_same, by rw [vl]; exact Nat.le_trans (Nat.add_le_add_right tl 1) (by decide), fun p10 np10 => ?_⟩
      have xd := xc.1.new (o := .lst (vs ++ [V.ref q9])) np10
      have kC := xc.2.trans xd.2
      refine ⟨p10, vs ++ [V.ref q9], ts ++ [tk9], rfl, TokAt.of upd_same (K1.Paired.snoc (TokL.kb tk4 kC xb.1) ⟨q9, rfl, kC.tup xb.1 q9 _ hq4⟩) (fun t ht => ?_) (by rw [List.length_append]; show ts.length + 1 ≤ 5000; omega), xd.1.tn, (fun _ Hn kn2 => ?_), fun t e => by rw [gd_more G htk] at e; cases e⟩
      · rcases List.mem_append.mp ht with ht | ht
        · exact gd t ht
        · rw [List.mem_singleton.mp ht]; exact more_good _ htk
      have xe := xd.1.kn kn2
      refine ⟨rfl, _, rfl, iteF ?_⟩
      have kD2 := kC.trans xe.2
      have eD5 := kD2.lst xb.1 nDb eD4
      have tk5 := TokL.kb tk4 kD2 xb.1
      -- a star ahead
      refine ⟨two_le, fun q11 nq11 => ⟨(by show 1 ≤ sizeLine; decide), fun l11 nl11 => ?_⟩⟩
      have xf := xe.1.new (o := .tup [V.str "sign", V.str "*"]) nq11
      have xg := xf.1.new (o := .lst [V.ref q11]) nl11
      have hq11 := xg.2.tup xf.1 q11 [V.str "sign", V.str "*"] upd_same
      have kE := xf.2.trans xg.2
      refine ⟨_, rfl, l11, D, [V.ref q11], vs, rfl, rfl, upd_same, kE.lst xe.1 nDb eD5, by rw [vl]; exact Nat.le_trans (Nat.add_le_add_left tl 1) (by decide), fun p12 np12 => ?_⟩
      have xh := xg.1.new (o := .lst ([V.ref q11] ++ vs)) np12
      refine ⟨p12, [V.ref q11] ++ vs, .sign 42 :: ts, rfl, TokAt.of upd_same (.cons ⟨q11, rfl, xh.2.tup xg.1 q11 _ hq11⟩ (TokL.kb tk5 (kE.trans xh.2) xe.1)) (fun t ht => ?_) (by show ts.length + 1 ≤ 5000; omega), xh.1.tn, (fun _ Ho ko => ?_), fun t e => by rw [parse_star] at e; cases e⟩
      · rcases List.mem_cons.mp ht with rfl | ht
        · show 42 ∈ SGN; decide
        · exact gd t ht
      have xi := xh.1.kn ko
      exact ⟨rfl, _, rfl, iteF ⟨_, _, _, _, _, _, _, rfl, xi.1⟩⟩
    · rintro σ Ha ⟨n, y2, y3, y4, y5, y6, y7, rfl, la⟩
      refine ⟨by show 12 ≤ sizeLine; decide, fun lb nlb => ?_⟩
      have l4 := la.new (o := .lst (badsM.map V.str)) nlb
      have nlb2 : lb ≠ b := la.nb nlb
      refine ⟨lb, rfl, ⟨_, SqL.of (xs := badsM.map V.str) upd_same⟩, for_list (K := K) (a := lb) (xs := badsM.map V.str) (fun i σ H' => ∃ y8 : Option V, σ = [some (.ref a), some (.ref b), y2, y3, y4, y5, y6, y7, y8] ∧ LJ b d PN PV ds H' n ∧ H' lb = some (.lst (badsM.map V.str)))
        ⟨none, rfl, l4.1, upd_same⟩ (fun i σ H' _ ⟨_, _, _, h⟩ => SqL.of h) ?_ ?_⟩
      · rintro i y σ H' hi ⟨y8, rfl, lx, eb⟩
        obtain ⟨z, ez, rfl⟩ : ∃ z, badsM[i]? = some z ∧ y = .str z := by
          rw [List.getElem?_map] at hi
          obtain ⟨z, h1, h2⟩ := Option.map_eq_some_iff.mp hi
          exact ⟨z, h1, h2.symm⟩
        have hz := List.mem_of_getElem? ez
        obtain ⟨ts, lx2, pm⟩ := badT_lex (bads_none z hz)
        obtain ⟨gd, gl⟩ := lex_good lx2 ts rfl
        have sl : (code z).length ≤ 5000 := by
          have : ∀ z ∈ badsM, (code z).length ≤ 5000 := by decide +kernel
          exact this z hz
        refine ⟨_, rfl, code z, some ts, strArg (S_of z).symm, sl, lx.tv, lx2, fun Hb kb => ⟨(fun e => by cases e), fun ts' D vs e nD eD tk => ?_⟩⟩
        cases e
        have lb1 := lx.kv kb
        refine ⟨D, vs, ts, rfl, TokAt.of eD tk gd (by omega), lb1.1.tn, (fun _ Hc kc => ?_), fun t e => by rw [pm] at e; cases e⟩
        have lc1 := lb1.1.kn kc
        exact ⟨rfl, _, rfl, iteF ⟨_, rfl, lc1.1, (lb1.2.trans lc1.2).lst lx nlb2 eb⟩⟩
      · rintro σ Hz ⟨y8, rfl, lx, eb⟩
        refine ⟨Nat.zero_le _, fun l1 nl1 => ?_⟩
        have lx1 := lx.new (o := .lst []) nl1
        refine ⟨l1, [], [], rfl, TokAt.of upd_same .nil (fun t ht => by cases ht) (by decide), lx1.1.tn, (fun _ H5 k5 => ?_), fun t e => ?_⟩
        rotate_left
        · have : parseM [] = none := by decide +kernel
          rw [this] at e
          cases e
        have lx2 := (lx1.1.kn k5).1
        refine ⟨rfl, _, rfl, iteT ?_⟩
        obtain ⟨tsA, lxA, pmA⟩ := badT_lex (lasts_none "a = b = c" (by simp))
        obtain ⟨gdA, glA⟩ := lex_good lxA tsA rfl
        refine ⟨code "a = b = c", some tsA, strArg (S_of _).symm, by decide +kernel, lx2.tv, lxA, fun HA kA => ⟨(fun e => by cases e), fun ts' DA vsA e nDA eDA tkA => ?_⟩⟩
        cases e
        have lzA := (lx2.kv kA).1
        have gmA : (code "a = b = c").length ≤ 5000 := by decide +kernel
        refine ⟨DA, vsA, tsA, rfl, TokAt.of eDA tkA gdA (by omega), lzA.tn, (fun _ GA kkA => ?_), fun t e => by rw [pmA] at e; cases e⟩
        have lyA := (lzA.kn kkA).1
        refine ⟨rfl, _, rfl, iteT ?_⟩
        obtain ⟨tsB, lxB, pmB⟩ := badT_lex (lasts_none "let" (by simp))
        obtain ⟨gdB, glB⟩ := lex_good lxB tsB rfl
        refine ⟨code "let", some tsB, strArg (S_of _).symm, by decide +kernel, lyA.tv, lxB, fun HB kB => ⟨(fun e => by cases e), fun ts' DB vsB e nDB eDB tkB => ?_⟩⟩
        cases e
        have lzB := (lyA.kv kB).1
        have gmB : (code "let").length ≤ 5000 := by decide +kernel
        refine ⟨DB, vsB, tsB, rfl, TokAt.of eDB tkB gdB (by omega), lzB.tn, (fun _ GB kkB => ?_), fun t e => by rw [pmB] at e; cases e⟩
        have lyB := (lzB.kn kkB).1
        refine ⟨rfl, _, rfl, iteT ?_⟩
        obtain ⟨tsC, lxC, pmC⟩ := badT_lex (lasts_none "f(a,)" (by simp))
        obtain ⟨gdC, glC⟩ := lex_good lxC tsC rfl
        refine ⟨code "f(a,)", some tsC, strArg (S_of _).symm, by decide +kernel, lyB.tv, lxC, fun HC kC => ⟨(fun e => by cases e), fun ts' DC vsC e nDC eDC tkC => ?_⟩⟩
        cases e
        have lzC := (lyB.kv kC).1
        have gmC : (code "f(a,)").length ≤ 5000 := by decide +kernel
        refine ⟨DC, vsC, tsC, rfl, TokAt.of eDC tkC gdC (by omega), lzC.tn, (fun _ GC kkC => ?_), fun t e => by rw [pmC] at e; cases e⟩
        have lyC := (lzC.kn kkC).1
        refine ⟨rfl, _, rfl, iteT ?_⟩
        obtain ⟨tsD, lxD, pmD⟩ := badT_lex (lasts_none "()" (by simp))
        obtain ⟨gdD, glD⟩ := lex_good lxD tsD rfl
        refine ⟨code "()", some tsD, strArg (S_of _).symm, by decide +kernel, lyC.tv, lxD, fun HD kD => ⟨(fun e => by cases e), fun ts' DD vsD e nDD eDD tkD => ?_⟩⟩
        cases e
        have lzD := (lyC.kv kD).1
        have gmD : (code "()").length ≤ 5000 := by decide +kernel
        refine ⟨DD, vsD, tsD, rfl, TokAt.of eDD tkD gdD (by omega), lzD.tn, (fun _ GD kkD => ?_), fun t e => by rw [pmD] at e; cases e⟩
        have lyD := (lzD.kn kkD).1
        exact ⟨rfl, q _⟩
end
end K3

set_option maxRecDepth 100000
set_option maxHeartbeats 16000000
namespace K3
open PySem hiding Tok code
open PySem.Spec PyProof.Rows GD K1
open L2 hiding rest
open K2 hiding Sp P
def strOf : Value → Option Str
  | .str x _ => some x
  | _ => none
def intOf : Value → Option Int
  | .int x _ => some x
  | _ => none
theorem vals_strs : ∀ (l : List Str) (us : List Value), us.map strOf = l.map some → Vals (l.map V.str) us
  | [], [], _ => .nil
  | [], _ :: _, h => by cases h
  | _ :: _, [], h => by cases h
  | x :: l, u :: us, h => by
    have h1 : strOf u = some x := (List.cons.inj h).1
    have h2 : us.map strOf = l.map some := (List.cons.inj h).2
    refine .cons ?_ (vals_strs l us h2)
    cases u with
    | str z t =>
      have e : z = x := Option.some.inj h1
      subst e
      exact ⟨t, rfl⟩
    | _ => cases h1
theorem vals_ints : ∀ (l : List Int) (us : List Value), us.map intOf = l.map some → Vals (l.map V.int) us
  | [], [], _ => .nil
  | [], _ :: _, h => by cases h
  | _ :: _, [], h => by cases h
  | x :: l, u :: us, h => by
    have h1 : intOf u = some x := (List.cons.inj h).1
    have h2 : us.map intOf = l.map some := (List.cons.inj h).2
    refine .cons ?_ (vals_ints l us h2)
    cases u with
    | int z t =>
      have e : z = x := Option.some.inj h1
      subst e
      exact ⟨t, rfl⟩
    | _ => cases h1
theorem exmSame {K : PySem.W.Frag} {E : Addr} (hb : PySem.W.subIn K (.ref E) (.type "BaseException") = some true) (hi : PySem.W.isClsIn K E = true) (ht : PySem.W.typeIn K (.ref E) = some (.type "type")) (hs : PySem.W.subIn K (.ref E) (.ref E) = some true) : PySem.W.exmOne K (.ref E) (.ref E) = some true := by
  have hi : (PySem.W.clsIn K E).isSome = true := hi
  unfold PySem.W.exmOne PySem.W.kitCls
  simp [hb, hi, ht, hs]

theorem end_at {l : PySem.W.OpenLaw} {q : Program} {w : World} {K : PySem.W.Frag} {h : Heap} {mg : Str → Option Value} {fa : Addr} (X : K.In h) (G : h.Ns mainGlobals mg) (hfa : mg "law" = some (.ref fa)) (TB : TabsAt q K mg h)
    {f1 f2 f3 f4 f5 f6 f7 f8 f9 f10 f11 f12 f13 f14 f15 f16 f17 f18 f19 f20 f21 f22 f23 f24 f25 f26 f27 f28 f29 f30 f31 f32 f33 f34 f35 f36 f37 f38 f39 f40 f41 f42 f43 f44 f45 f46 f47 f48 f49 f50 f51 tcN tpN tcV tpV CR EN ra ropen rclose rT rO rq0 rq1 rq2 rq3 rq4 : Addr} {od1 an1 od2 an2 od3 an3 od4 an4 od5 an5 od6 an6 od7 an7 od8 an8 od9 an9 od10 an10 od11 an11 od12 an12 od13 an13 od14 an14 od15 an15 od16 an16 od17 an17 od18 an18 od19 an19 od20 an20 od21 an21 od22 an22 od23 an23 od24 an24 od25 an25 od26 an26 od27 an27 od28 an28 od29 an29 od30 an30 od31 an31 od32 an32 od33 an33 od34 an34 od35 an35 od36 an36 od37 an37 od38 an38 od39 an39 od40 an40 od41 an41 od42 an42 od43 an43 od44 an44 od45 an45 od46 an46 od47 an47 od48 an48 od49 an49 od50 an50 od51 an51 tdN tdV dR dOp dCl dq0 dq1 dq2 dq3 dq4 : Option Addr} {sl1 sl2 sl3 sl4 sl5 sl6 sl7 sl8 sl9 sl10 sl11 sl12 sl13 sl14 sl15 sl16 sl17 sl18 sl19 sl20 sl21 sl22 sl23 sl24 sl25 sl26 sl27 sl28 sl29 sl30 sl31 sl32 sl33 sl34 sl35 sl36 sl37 sl38 sl39 sl40 sl41 sl42 sl43 sl44 sl45 sl46 sl47 sl48 sl49 sl50 sl51 tsN tsV sR sOp sCl sq0 sq1 sq2 sq3 sq4 : Array (Option Value)}
    {oc1 kV1 dc1 pm1 ct1 oc2 kV2 dc2 pm2 ct2 oc3 kV3 dc3 pm3 ct3 oc4 kV4 dc4 pm4 ct4 oc5 kV5 dc5 pm5 ct5 oc6 kV6 dc6 pm6 ct6 oc7 kV7 dc7 pm7 ct7 oc8 kV8 dc8 pm8 ct8 oc9 kV9 dc9 pm9 ct9 oc10 kV10 dc10 pm10 ct10 oc11 kV11 dc11 pm11 ct11 oc12 kV12 dc12 pm12 ct12 oc13 kV13 dc13 pm13 ct13 oc14 kV14 dc14 pm14 ct14 oc15 kV15 dc15 pm15 ct15 oc16 kV16 dc16 pm16 ct16 oc17 kV17 dc17 pm17 ct17 oc18 kV18 dc18 pm18 ct18 oc19 kV19 dc19 pm19 ct19 oc20 kV20 dc20 pm20 ct20 oc21 kV21 dc21 pm21 ct21 oc22 kV22 dc22 pm22 ct22 oc23 kV23 dc23 pm23 ct23 oc24 kV24 dc24 pm24 ct24 oc25 kV25 dc25 pm25 ct25 oc26 kV26 dc26 pm26 ct26 oc27 kV27 dc27 pm27 ct27 oc28 kV28 dc28 pm28 ct28 oc29 kV29 dc29 pm29 ct29 oc30 kV30 dc30 pm30 ct30 oc31 kV31 dc31 pm31 ct31 oc32 kV32 dc32 pm32 ct32 oc33 kV33 dc33 pm33 ct33 oc34 kV34 dc34 pm34 ct34 oc35 kV35 dc35 pm35 ct35 oc36 kV36 dc36 pm36 ct36 oc37 kV37 dc37 pm37 ct37 oc38 kV38 dc38 pm38 ct38 oc39 kV39 dc39 pm39 ct39 oc40 kV40 dc40 pm40 ct40 oc41 kV41 dc41 pm41 ct41 oc42 kV42 dc42 pm42 ct42 oc43 kV43 dc43 pm43 ct43 oc44 kV44 dc44 pm44 ct44 oc45 kV45 dc45 pm45 ct45 oc46 kV46 dc46 pm46 ct46 oc47 kV47 dc47 pm47 ct47 oc48 kV48 dc48 pm48 ct48 oc49 kV49 dc49 pm49 ct49 oc50 kV50 dc50 pm50 ct50 oc51 kV51 dc51 pm51 ct51 cd3 cd4 cd5 cd6 cd7 cd8 cd9 cd10 cd11 cd12 cd13 cd14 cd15 cd16 cd17 cd18 cd19 cd20 cd21 cd22 cd23 cd24 cd25 cd26 cd27 cd28 cd29 cd30 cd31 cd32 cd33 cd34 cd35 cd36 cd37 cd38 cd39 cd40 cd41 cd42 cd43 cd44 cd45 cd46 cd47 cd48 cd49 cd50 cd51 teN teV : Value} {tuN tuV iR iOp iCl iq0 iq1 iq2 iq3 iq4 : Array Value} {t_NAME_MOST t_NUMBER_MOST t_STRING_MOST t_NESTED_MOST t_HEIGHT_MOST t_ATOM t_CHARACTERS t_LETTERS t_DIGITS t_SIGNS  : PySem.Tok} {nR nOp nCl nT nO nq0 nq1 nq2 nq3 nq4 : Nat} {esT esO : Array DictEntry} {vt0 vt1 vt2 vt3 vt4 vt5 vt6 : PySem.Tok}
    (gR : PySem.W.nsIn K mainGlobals "Reader" = some (some (.ref CR)))
    (xN : PySem.W.nsIn K mainGlobals "NoExpression" = some (some (.ref EN)))
    (a1 : PySem.W.nsIn K mainGlobals "is_name" = some (some (.ref f1)))
    (l1 : K.lookup f1 = some ⟨oc1, od1, .func (PySem.W.fnOf "is_name" "is_name" (defArgs sIsName) (defBody sIsName) (defScope sIsName) .none kV1 dc1 pm1 an1 (.ref tcN) ct1), sl1⟩)
    (c1 : PySem.W.codeIn K (.ref tcN) "is_name" = true)
    (k1 : PySem.W.keepIn K (.ref f1) = true)
    (a2 : PySem.W.nsIn K mainGlobals "is_value" = some (some (.ref f2)))
    (l2 : K.lookup f2 = some ⟨oc2, od2, .func (PySem.W.fnOf "is_value" "is_value" (defArgs sIsValue) (defBody sIsValue) (defScope sIsValue) .none kV2 dc2 pm2 an2 (.ref tcV) ct2), sl2⟩)
    (c2 : PySem.W.codeIn K (.ref tcV) "is_value" = true)
    (k2 : PySem.W.keepIn K (.ref f2) = true)
    (a3 : PySem.W.nsIn K mainGlobals "split" = some (some (.ref f3)))
    (l3 : K.lookup f3 = some ⟨oc3, od3, .func (PySem.W.fnOf "split" "split" (defArgs sSplit) (defBody sSplit) (defScope sSplit) .none kV3 dc3 pm3 an3 cd3 ct3), sl3⟩)
    (c3 : PySem.W.codeIn K cd3 "split" = true)
    (k3 : PySem.W.keepIn K (.ref f3) = true)
    (a4 : PySem.W.nsIn K mainGlobals "token_at" = some (some (.ref f4)))
    (l4 : K.lookup f4 = some ⟨oc4, od4, .func (PySem.W.fnOf "token_at" "token_at" (defArgs sTokenAt) (defBody sTokenAt) (defScope sTokenAt) .none kV4 dc4 pm4 an4 cd4 ct4), sl4⟩)
    (c4 : PySem.W.codeIn K cd4 "token_at" = true)
    (k4 : PySem.W.keepIn K (.ref f4) = true)
    (a5 : PySem.W.nsIn K mainGlobals "word_at" = some (some (.ref f5)))
    (l5 : K.lookup f5 = some ⟨oc5, od5, .func (PySem.W.fnOf "word_at" "word_at" (defArgs sWordAt) (defBody sWordAt) (defScope sWordAt) .none kV5 dc5 pm5 an5 cd5 ct5), sl5⟩)
    (c5 : PySem.W.codeIn K cd5 "word_at" = true)
    (k5 : PySem.W.keepIn K (.ref f5) = true)
    (a6 : PySem.W.nsIn K mainGlobals "number_at" = some (some (.ref f6)))
    (l6 : K.lookup f6 = some ⟨oc6, od6, .func (PySem.W.fnOf "number_at" "number_at" (defArgs sNumberAt) (defBody sNumberAt) (defScope sNumberAt) .none kV6 dc6 pm6 an6 cd6 ct6), sl6⟩)
    (c6 : PySem.W.codeIn K cd6 "number_at" = true)
    (k6 : PySem.W.keepIn K (.ref f6) = true)
    (a7 : PySem.W.nsIn K mainGlobals "string_at" = some (some (.ref f7)))
    (l7 : K.lookup f7 = some ⟨oc7, od7, .func (PySem.W.fnOf "string_at" "string_at" (defArgs sStringAt) (defBody sStringAt) (defScope sStringAt) .none kV7 dc7 pm7 an7 cd7 ct7), sl7⟩)
    (c7 : PySem.W.codeIn K cd7 "string_at" = true)
    (k7 : PySem.W.keepIn K (.ref f7) = true)
    (a8 : PySem.W.nsIn K mainGlobals "end_of_run" = some (some (.ref f8)))
    (l8 : K.lookup f8 = some ⟨oc8, od8, .func (PySem.W.fnOf "end_of_run" "end_of_run" (defArgs sEndOfRun) (defBody sEndOfRun) (defScope sEndOfRun) .none kV8 dc8 pm8 an8 cd8 ct8), sl8⟩)
    (c8 : PySem.W.codeIn K cd8 "end_of_run" = true)
    (k8 : PySem.W.keepIn K (.ref f8) = true)
    (a9 : PySem.W.nsIn K mainGlobals "bounded" = some (some (.ref f9)))
    (l9 : K.lookup f9 = some ⟨oc9, od9, .func (PySem.W.fnOf "bounded" "bounded" (defArgs sBounded) (defBody sBounded) (defScope sBounded) .none kV9 dc9 pm9 an9 cd9 ct9), sl9⟩)
    (c9 : PySem.W.codeIn K cd9 "bounded" = true)
    (k9 : PySem.W.keepIn K (.ref f9) = true)
    (a10 : PySem.W.nsIn K mainGlobals "parse" = some (some (.ref f10)))
    (l10 : K.lookup f10 = some ⟨oc10, od10, .func (PySem.W.fnOf "parse" "parse" (defArgs sParse) (defBody sParse) (defScope sParse) .none kV10 dc10 pm10 an10 cd10 ct10), sl10⟩)
    (c10 : PySem.W.codeIn K cd10 "parse" = true)
    (k10 : PySem.W.keepIn K (.ref f10) = true)
    (a11 : PySem.W.nsIn K mainGlobals "parts_of" = some (some (.ref f11)))
    (l11 : K.lookup f11 = some ⟨oc11, od11, .func (PySem.W.fnOf "parts_of" "parts_of" (defArgs sParts) (defBody sParts) (defScope sParts) .none kV11 dc11 pm11 an11 cd11 ct11), sl11⟩)
    (c11 : PySem.W.codeIn K cd11 "parts_of" = true)
    (k11 : PySem.W.keepIn K (.ref f11) = true)
    (a12 : PySem.W.nsIn K mainGlobals "height" = some (some (.ref f12)))
    (l12 : K.lookup f12 = some ⟨oc12, od12, .func (PySem.W.fnOf "height" "height" (defArgs sHeight) (defBody sHeight) (defScope sHeight) .none kV12 dc12 pm12 an12 cd12 ct12), sl12⟩)
    (c12 : PySem.W.codeIn K cd12 "height" = true)
    (k12 : PySem.W.keepIn K (.ref f12) = true)
    (a13 : PySem.W.nsIn K mainGlobals "write" = some (some (.ref f13)))
    (l13 : K.lookup f13 = some ⟨oc13, od13, .func (PySem.W.fnOf "write" "write" (defArgs sWrite) (defBody sWrite) (defScope sWrite) .none kV13 dc13 pm13 an13 cd13 ct13), sl13⟩)
    (c13 : PySem.W.codeIn K cd13 "write" = true)
    (k13 : PySem.W.keepIn K (.ref f13) = true)
    (a14 : PySem.W.nsIn K mainGlobals "write_call" = some (some (.ref f14)))
    (l14 : K.lookup f14 = some ⟨oc14, od14, .func (PySem.W.fnOf "write_call" "write_call" (defArgs sWCall) (defBody sWCall) (defScope sWCall) .none kV14 dc14 pm14 an14 cd14 ct14), sl14⟩)
    (c14 : PySem.W.codeIn K cd14 "write_call" = true)
    (k14 : PySem.W.keepIn K (.ref f14) = true)
    (a15 : PySem.W.nsIn K mainGlobals "write_sequence" = some (some (.ref f15)))
    (l15 : K.lookup f15 = some ⟨oc15, od15, .func (PySem.W.fnOf "write_sequence" "write_sequence" (defArgs sWSeq) (defBody sWSeq) (defScope sWSeq) .none kV15 dc15 pm15 an15 cd15 ct15), sl15⟩)
    (c15 : PySem.W.codeIn K cd15 "write_sequence" = true)
    (k15 : PySem.W.keepIn K (.ref f15) = true)
    (a16 : PySem.W.nsIn K mainGlobals "write_signed" = some (some (.ref f16)))
    (l16 : K.lookup f16 = some ⟨oc16, od16, .func (PySem.W.fnOf "write_signed" "write_signed" (defArgs sWSigned) (defBody sWSigned) (defScope sWSigned) .none kV16 dc16 pm16 an16 cd16 ct16), sl16⟩)
    (c16 : PySem.W.codeIn K cd16 "write_signed" = true)
    (k16 : PySem.W.keepIn K (.ref f16) = true)
    (a17 : PySem.W.nsIn K mainGlobals "write_operand" = some (some (.ref f17)))
    (l17 : K.lookup f17 = some ⟨oc17, od17, .func (PySem.W.fnOf "write_operand" "write_operand" (defArgs sWOper) (defBody sWOper) (defScope sWOper) .none kV17 dc17 pm17 an17 cd17 ct17), sl17⟩)
    (c17 : PySem.W.codeIn K cd17 "write_operand" = true)
    (k17 : PySem.W.keepIn K (.ref f17) = true)
    (a18 : PySem.W.nsIn K mainGlobals "_law_cell" = some (some (.ref f18)))
    (l18 : K.lookup f18 = some ⟨oc18, od18, .func (PySem.W.fnOf "_law_cell" "_law_cell" (defArgs sCell) (defBody sCell) (defScope sCell) .none kV18 dc18 pm18 an18 cd18 ct18), sl18⟩)
    (c18 : PySem.W.codeIn K cd18 "_law_cell" = true)
    (k18 : PySem.W.keepIn K (.ref f18) = true)
    (a19 : PySem.W.nsIn K mainGlobals "_law_digits" = some (some (.ref f19)))
    (l19 : K.lookup f19 = some ⟨oc19, od19, .func (PySem.W.fnOf "_law_digits" "_law_digits" (defArgs sDigits) (defBody sDigits) (defScope sDigits) .none kV19 dc19 pm19 an19 cd19 ct19), sl19⟩)
    (c19 : PySem.W.codeIn K cd19 "_law_digits" = true)
    (k19 : PySem.W.keepIn K (.ref f19) = true)
    (a20 : PySem.W.nsIn K mainGlobals "_law_draw" = some (some (.ref f20)))
    (l20 : K.lookup f20 = some ⟨oc20, od20, .func (PySem.W.fnOf "_law_draw" "_law_draw" (defArgs sDraw) (defBody sDraw) (defScope sDraw) .none kV20 dc20 pm20 an20 cd20 ct20), sl20⟩)
    (c20 : PySem.W.codeIn K cd20 "_law_draw" = true)
    (k20 : PySem.W.keepIn K (.ref f20) = true)
    (a21 : PySem.W.nsIn K mainGlobals "_law_atom" = some (some (.ref f21)))
    (l21 : K.lookup f21 = some ⟨oc21, od21, .func (PySem.W.fnOf "_law_atom" "_law_atom" (defArgs sAtom) (defBody sAtom) (defScope sAtom) .none kV21 dc21 pm21 an21 cd21 ct21), sl21⟩)
    (c21 : PySem.W.codeIn K cd21 "_law_atom" = true)
    (k21 : PySem.W.keepIn K (.ref f21) = true)
    (a22 : PySem.W.nsIn K mainGlobals "_law_tree" = some (some (.ref f22)))
    (l22 : K.lookup f22 = some ⟨oc22, od22, .func (PySem.W.fnOf "_law_tree" "_law_tree" (defArgs sTree) (defBody sTree) (defScope sTree) .none kV22 dc22 pm22 an22 cd22 ct22), sl22⟩)
    (c22 : PySem.W.codeIn K cd22 "_law_tree" = true)
    (k22 : PySem.W.keepIn K (.ref f22) = true)
    (a23 : PySem.W.nsIn K mainGlobals "_law_level" = some (some (.ref f23)))
    (l23 : K.lookup f23 = some ⟨oc23, od23, .func (PySem.W.fnOf "_law_level" "_law_level" (defArgs sLevel) (defBody sLevel) (defScope sLevel) .none kV23 dc23 pm23 an23 cd23 ct23), sl23⟩)
    (c23 : PySem.W.codeIn K cd23 "_law_level" = true)
    (k23 : PySem.W.keepIn K (.ref f23) = true)
    (a24 : PySem.W.nsIn K mainGlobals "_law_rest" = some (some (.ref f24)))
    (l24 : K.lookup f24 = some ⟨oc24, od24, .func (PySem.W.fnOf "_law_rest" "_law_rest" (defArgs sLRest) (defBody sLRest) (defScope sLRest) .none kV24 dc24 pm24 an24 cd24 ct24), sl24⟩)
    (c24 : PySem.W.codeIn K cd24 "_law_rest" = true)
    (k24 : PySem.W.keepIn K (.ref f24) = true)
    (a25 : PySem.W.nsIn K mainGlobals "_law_write" = some (some (.ref f25)))
    (l25 : K.lookup f25 = some ⟨oc25, od25, .func (PySem.W.fnOf "_law_write" "_law_write" (defArgs sLWrite) (defBody sLWrite) (defScope sLWrite) .none kV25 dc25 pm25 an25 cd25 ct25), sl25⟩)
    (c25 : PySem.W.codeIn K cd25 "_law_write" = true)
    (k25 : PySem.W.keepIn K (.ref f25) = true)
    (a26 : PySem.W.nsIn K mainGlobals "_law_alike" = some (some (.ref f26)))
    (l26 : K.lookup f26 = some ⟨oc26, od26, .func (PySem.W.fnOf "_law_alike" "_law_alike" (defArgs sAlike) (defBody sAlike) (defScope sAlike) .none kV26 dc26 pm26 an26 cd26 ct26), sl26⟩)
    (c26 : PySem.W.codeIn K cd26 "_law_alike" = true)
    (k26 : PySem.W.keepIn K (.ref f26) = true)
    (a27 : PySem.W.nsIn K mainGlobals "_law_height" = some (some (.ref f27)))
    (l27 : K.lookup f27 = some ⟨oc27, od27, .func (PySem.W.fnOf "_law_height" "_law_height" (defArgs sLHeight) (defBody sLHeight) (defScope sLHeight) .none kV27 dc27 pm27 an27 cd27 ct27), sl27⟩)
    (c27 : PySem.W.codeIn K cd27 "_law_height" = true)
    (k27 : PySem.W.keepIn K (.ref f27) = true)
    (a28 : PySem.W.nsIn K mainGlobals "_law_loose" = some (some (.ref f28)))
    (l28 : K.lookup f28 = some ⟨oc28, od28, .func (PySem.W.fnOf "_law_loose" "_law_loose" (defArgs sLoose) (defBody sLoose) (defScope sLoose) .none kV28 dc28 pm28 an28 cd28 ct28), sl28⟩)
    (c28 : PySem.W.codeIn K cd28 "_law_loose" = true)
    (k28 : PySem.W.keepIn K (.ref f28) = true)
    (a29 : PySem.W.nsIn K mainGlobals "_law_bounds" = some (some (.ref f29)))
    (l29 : K.lookup f29 = some ⟨oc29, od29, .func (PySem.W.fnOf "_law_bounds" "_law_bounds" (defArgs sBounds) (defBody sBounds) (defScope sBounds) .none kV29 dc29 pm29 an29 cd29 ct29), sl29⟩)
    (c29 : PySem.W.codeIn K cd29 "_law_bounds" = true)
    (k29 : PySem.W.keepIn K (.ref f29) = true)
    (a30 : PySem.W.nsIn K mainGlobals "law" = some (some (.ref f30)))
    (l30 : K.lookup f30 = some ⟨oc30, od30, .func (PySem.W.fnOf "law" "law" (defArgs sLaw) (defBody sLaw) (defScope sLaw) .none kV30 dc30 pm30 an30 cd30 ct30), sl30⟩)
    (c30 : PySem.W.codeIn K cd30 "law" = true)
    (k30 : PySem.W.keepIn K (.ref f30) = true)
    (a31 : PySem.W.findIn K (.ref CR) "__init__" = some (some (.ref f31)))
    (i31 : PySem.W.isFn K (.ref f31) = true)
    (l31 : K.lookup f31 = some ⟨oc31, od31, .func (PySem.W.fnOf "__init__" "Reader.__init__" (defArgs mInit) (defBody mInit) (defScope mInit) .none kV31 dc31 pm31 an31 cd31 ct31), sl31⟩)
    (c31 : PySem.W.codeIn K cd31 "Reader.__init__" = true)
    (k31 : PySem.W.keepIn K (.ref f31) = true)
    (a32 : PySem.W.findIn K (.ref CR) "at_end" = some (some (.ref f32)))
    (i32 : PySem.W.isFn K (.ref f32) = true)
    (l32 : K.lookup f32 = some ⟨oc32, od32, .func (PySem.W.fnOf "at_end" "Reader.at_end" (defArgs mAtEnd) (defBody mAtEnd) (defScope mAtEnd) .none kV32 dc32 pm32 an32 cd32 ct32), sl32⟩)
    (c32 : PySem.W.codeIn K cd32 "Reader.at_end" = true)
    (k32 : PySem.W.keepIn K (.ref f32) = true)
    (a33 : PySem.W.findIn K (.ref CR) "next_is" = some (some (.ref f33)))
    (i33 : PySem.W.isFn K (.ref f33) = true)
    (l33 : K.lookup f33 = some ⟨oc33, od33, .func (PySem.W.fnOf "next_is" "Reader.next_is" (defArgs mNext) (defBody mNext) (defScope mNext) .none kV33 dc33 pm33 an33 cd33 ct33), sl33⟩)
    (c33 : PySem.W.codeIn K cd33 "Reader.next_is" = true)
    (k33 : PySem.W.keepIn K (.ref f33) = true)
    (a34 : PySem.W.findIn K (.ref CR) "accept" = some (some (.ref f34)))
    (i34 : PySem.W.isFn K (.ref f34) = true)
    (l34 : K.lookup f34 = some ⟨oc34, od34, .func (PySem.W.fnOf "accept" "Reader.accept" (defArgs mAccept) (defBody mAccept) (defScope mAccept) .none kV34 dc34 pm34 an34 cd34 ct34), sl34⟩)
    (c34 : PySem.W.codeIn K cd34 "Reader.accept" = true)
    (k34 : PySem.W.keepIn K (.ref f34) = true)
    (a35 : PySem.W.findIn K (.ref CR) "expect" = some (some (.ref f35)))
    (i35 : PySem.W.isFn K (.ref f35) = true)
    (l35 : K.lookup f35 = some ⟨oc35, od35, .func (PySem.W.fnOf "expect" "Reader.expect" (defArgs mExpect) (defBody mExpect) (defScope mExpect) .none kV35 dc35 pm35 an35 cd35 ct35), sl35⟩)
    (c35 : PySem.W.codeIn K cd35 "Reader.expect" = true)
    (k35 : PySem.W.keepIn K (.ref f35) = true)
    (a36 : PySem.W.findIn K (.ref CR) "take" = some (some (.ref f36)))
    (i36 : PySem.W.isFn K (.ref f36) = true)
    (l36 : K.lookup f36 = some ⟨oc36, od36, .func (PySem.W.fnOf "take" "Reader.take" (defArgs mTake) (defBody mTake) (defScope mTake) .none kV36 dc36 pm36 an36 cd36 ct36), sl36⟩)
    (c36 : PySem.W.codeIn K cd36 "Reader.take" = true)
    (k36 : PySem.W.keepIn K (.ref f36) = true)
    (a37 : PySem.W.findIn K (.ref CR) "accept_sign" = some (some (.ref f37)))
    (i37 : PySem.W.isFn K (.ref f37) = true)
    (l37 : K.lookup f37 = some ⟨oc37, od37, .func (PySem.W.fnOf "accept_sign" "Reader.accept_sign" (defArgs mAccSign) (defBody mAccSign) (defScope mAccSign) .none kV37 dc37 pm37 an37 cd37 ct37), sl37⟩)
    (c37 : PySem.W.codeIn K cd37 "Reader.accept_sign" = true)
    (k37 : PySem.W.keepIn K (.ref f37) = true)
    (a38 : PySem.W.findIn K (.ref CR) "whole" = some (some (.ref f38)))
    (i38 : PySem.W.isFn K (.ref f38) = true)
    (l38 : K.lookup f38 = some ⟨oc38, od38, .func (PySem.W.fnOf "whole" "Reader.whole" (defArgs mWhole) (defBody mWhole) (defScope mWhole) .none kV38 dc38 pm38 an38 cd38 ct38), sl38⟩)
    (c38 : PySem.W.codeIn K cd38 "Reader.whole" = true)
    (k38 : PySem.W.keepIn K (.ref f38) = true)
    (a39 : PySem.W.findIn K (.ref CR) "choice" = some (some (.ref f39)))
    (i39 : PySem.W.isFn K (.ref f39) = true)
    (l39 : K.lookup f39 = some ⟨oc39, od39, .func (PySem.W.fnOf "choice" "Reader.choice" (defArgs mChoice) (defBody mChoice) (defScope mChoice) .none kV39 dc39 pm39 an39 cd39 ct39), sl39⟩)
    (c39 : PySem.W.codeIn K cd39 "Reader.choice" = true)
    (k39 : PySem.W.keepIn K (.ref f39) = true)
    (a40 : PySem.W.findIn K (.ref CR) "setting" = some (some (.ref f40)))
    (i40 : PySem.W.isFn K (.ref f40) = true)
    (l40 : K.lookup f40 = some ⟨oc40, od40, .func (PySem.W.fnOf "setting" "Reader.setting" (defArgs mSetting) (defBody mSetting) (defScope mSetting) .none kV40 dc40 pm40 an40 cd40 ct40), sl40⟩)
    (c40 : PySem.W.codeIn K cd40 "Reader.setting" = true)
    (k40 : PySem.W.keepIn K (.ref f40) = true)
    (a41 : PySem.W.findIn K (.ref CR) "branch" = some (some (.ref f41)))
    (i41 : PySem.W.isFn K (.ref f41) = true)
    (l41 : K.lookup f41 = some ⟨oc41, od41, .func (PySem.W.fnOf "branch" "Reader.branch" (defArgs mBranch) (defBody mBranch) (defScope mBranch) .none kV41 dc41 pm41 an41 cd41 ct41), sl41⟩)
    (c41 : PySem.W.codeIn K cd41 "Reader.branch" = true)
    (k41 : PySem.W.keepIn K (.ref f41) = true)
    (a42 : PySem.W.findIn K (.ref CR) "target" = some (some (.ref f42)))
    (i42 : PySem.W.isFn K (.ref f42) = true)
    (l42 : K.lookup f42 = some ⟨oc42, od42, .func (PySem.W.fnOf "target" "Reader.target" (defArgs mTarget) (defBody mTarget) (defScope mTarget) .none kV42 dc42 pm42 an42 cd42 ct42), sl42⟩)
    (c42 : PySem.W.codeIn K cd42 "Reader.target" = true)
    (k42 : PySem.W.keepIn K (.ref f42) = true)
    (a43 : PySem.W.findIn K (.ref CR) "compared" = some (some (.ref f43)))
    (i43 : PySem.W.isFn K (.ref f43) = true)
    (l43 : K.lookup f43 = some ⟨oc43, od43, .func (PySem.W.fnOf "compared" "Reader.compared" (defArgs mCompared) (defBody mCompared) (defScope mCompared) .none kV43 dc43 pm43 an43 cd43 ct43), sl43⟩)
    (c43 : PySem.W.codeIn K cd43 "Reader.compared" = true)
    (k43 : PySem.W.keepIn K (.ref f43) = true)
    (a44 : PySem.W.findIn K (.ref CR) "added" = some (some (.ref f44)))
    (i44 : PySem.W.isFn K (.ref f44) = true)
    (l44 : K.lookup f44 = some ⟨oc44, od44, .func (PySem.W.fnOf "added" "Reader.added" (defArgs mAdded) (defBody mAdded) (defScope mAdded) .none kV44 dc44 pm44 an44 cd44 ct44), sl44⟩)
    (c44 : PySem.W.codeIn K cd44 "Reader.added" = true)
    (k44 : PySem.W.keepIn K (.ref f44) = true)
    (a45 : PySem.W.findIn K (.ref CR) "multiplied" = some (some (.ref f45)))
    (i45 : PySem.W.isFn K (.ref f45) = true)
    (l45 : K.lookup f45 = some ⟨oc45, od45, .func (PySem.W.fnOf "multiplied" "Reader.multiplied" (defArgs mMult) (defBody mMult) (defScope mMult) .none kV45 dc45 pm45 an45 cd45 ct45), sl45⟩)
    (c45 : PySem.W.codeIn K cd45 "Reader.multiplied" = true)
    (k45 : PySem.W.keepIn K (.ref f45) = true)
    (a46 : PySem.W.findIn K (.ref CR) "atom" = some (some (.ref f46)))
    (i46 : PySem.W.isFn K (.ref f46) = true)
    (l46 : K.lookup f46 = some ⟨oc46, od46, .func (PySem.W.fnOf "atom" "Reader.atom" (defArgs mAtom) (defBody mAtom) (defScope mAtom) .none kV46 dc46 pm46 an46 cd46 ct46), sl46⟩)
    (c46 : PySem.W.codeIn K cd46 "Reader.atom" = true)
    (k46 : PySem.W.keepIn K (.ref f46) = true)
    (a47 : PySem.W.findIn K (.ref CR) "arguments" = some (some (.ref f47)))
    (i47 : PySem.W.isFn K (.ref f47) = true)
    (l47 : K.lookup f47 = some ⟨oc47, od47, .func (PySem.W.fnOf "arguments" "Reader.arguments" (defArgs mArgs) (defBody mArgs) (defScope mArgs) .none kV47 dc47 pm47 an47 cd47 ct47), sl47⟩)
    (c47 : PySem.W.codeIn K cd47 "Reader.arguments" = true)
    (k47 : PySem.W.keepIn K (.ref f47) = true)
    (a48 : PySem.W.findIn K (.ref CR) "sequence" = some (some (.ref f48)))
    (i48 : PySem.W.isFn K (.ref f48) = true)
    (l48 : K.lookup f48 = some ⟨oc48, od48, .func (PySem.W.fnOf "sequence" "Reader.sequence" (defArgs mSeq) (defBody mSeq) (defScope mSeq) .none kV48 dc48 pm48 an48 cd48 ct48), sl48⟩)
    (c48 : PySem.W.codeIn K cd48 "Reader.sequence" = true)
    (k48 : PySem.W.keepIn K (.ref f48) = true)
    (a49 : PySem.W.findIn K (.ref CR) "wholes" = some (some (.ref f49)))
    (i49 : PySem.W.isFn K (.ref f49) = true)
    (l49 : K.lookup f49 = some ⟨oc49, od49, .func (PySem.W.fnOf "wholes" "Reader.wholes" (defArgs mWholes) (defBody mWholes) (defScope mWholes) .none kV49 dc49 pm49 an49 cd49 ct49), sl49⟩)
    (c49 : PySem.W.codeIn K cd49 "Reader.wholes" = true)
    (k49 : PySem.W.keepIn K (.ref f49) = true)
    (a50 : PySem.W.findIn K (.ref CR) "enter" = some (some (.ref f50)))
    (i50 : PySem.W.isFn K (.ref f50) = true)
    (l50 : K.lookup f50 = some ⟨oc50, od50, .func (PySem.W.fnOf "enter" "Reader.enter" (defArgs mEnter) (defBody mEnter) (defScope mEnter) .none kV50 dc50 pm50 an50 cd50 ct50), sl50⟩)
    (c50 : PySem.W.codeIn K cd50 "Reader.enter" = true)
    (k50 : PySem.W.keepIn K (.ref f50) = true)
    (a51 : PySem.W.findIn K (.ref CR) "leave" = some (some (.ref f51)))
    (i51 : PySem.W.isFn K (.ref f51) = true)
    (l51 : K.lookup f51 = some ⟨oc51, od51, .func (PySem.W.fnOf "leave" "Reader.leave" (defArgs mLeave) (defBody mLeave) (defScope mLeave) .none kV51 dc51 pm51 an51 cd51 ct51), sl51⟩)
    (c51 : PySem.W.codeIn K cd51 "Reader.leave" = true)
    (k51 : PySem.W.keepIn K (.ref f51) = true)
    (pgR : PySem.W.plainGet K CR Str.empty = true)
    (hdR : PySem.W.hasDictIn K CR = true)
    (poR : PySem.W.plainOver K CR = true)
    (saR : PySem.W.findIn K (.ref CR) "__setattr__" = some (some (.builtin "object.__setattr__")))
    (mkR : PySem.W.makesIn K CR = true)
    (kcR : PySem.W.keepIn K (.ref CR) = true)
    (naR0 : PySem.W.findIn K (.ref CR) "tokens" = some none)
    (naR1 : PySem.W.findIn K (.ref CR) "at" = some none)
    (naR2 : PySem.W.findIn K (.ref CR) "nested" = some none)
    (naR3 : PySem.W.findIn K (.ref CR) "branches" = some none)
    (exN : PySem.W.excIn K EN [.type "ValueError", .type "Exception", .type "BaseException", .type "object"] "ValueError.__new__" = true)
    (ekN : PySem.W.keepIn K (.ref EN) = true)
    (ebN : PySem.W.subIn K (.ref EN) (.type "BaseException") = some true)
    (etN : PySem.W.typeIn K (.ref EN) = some (.type "type"))
    (eiN : PySem.W.isClsIn K EN = true)
    (esN : PySem.W.subIn K (.ref EN) (.ref EN) = some true)
    (z_len : PySem.W.nsIn K mainGlobals "len" = some none)
    (z_range : PySem.W.nsIn K mainGlobals "range" = some none)
    (z_bint : PySem.W.nsIn K mainGlobals "int" = some none)
    (z_bstr : PySem.W.nsIn K mainGlobals "str" = some none)
    (z_bbool : PySem.W.nsIn K mainGlobals "bool" = some none)
    (z_blist : PySem.W.nsIn K mainGlobals "list" = some none)
    (z_repr : PySem.W.nsIn K mainGlobals "repr" = some none)
    (z_isinstance : PySem.W.nsIn K mainGlobals "isinstance" = some none)
    (z_ord : PySem.W.nsIn K mainGlobals "ord" = some none)
    (z_all : PySem.W.nsIn K mainGlobals "all" = some none)
    (z_btuple : PySem.W.nsIn K mainGlobals "tuple" = some none)
    (z_max : PySem.W.nsIn K mainGlobals "max" = some none)
    (z_reversed : PySem.W.nsIn K mainGlobals "reversed" = some none)
    (y_NAME_MOST : PySem.W.nsIn K mainGlobals "NAME_MOST" = some (some (.int 6 t_NAME_MOST)))
    (y_NUMBER_MOST : PySem.W.nsIn K mainGlobals "NUMBER_MOST" = some (some (.int 99999 t_NUMBER_MOST)))
    (y_STRING_MOST : PySem.W.nsIn K mainGlobals "STRING_MOST" = some (some (.int 20 t_STRING_MOST)))
    (y_NESTED_MOST : PySem.W.nsIn K mainGlobals "NESTED_MOST" = some (some (.int 10 t_NESTED_MOST)))
    (y_HEIGHT_MOST : PySem.W.nsIn K mainGlobals "HEIGHT_MOST" = some (some (.int 12 t_HEIGHT_MOST)))
    (y_ATOM : PySem.W.nsIn K mainGlobals "ATOM" = some (some (.int 4 t_ATOM)))
    (y_CHARACTERS : PySem.W.nsIn K mainGlobals "CHARACTERS" = some (some (.str " !\"#$&'()*+,-./0123456789:;<=>?@ABCDEFGHIJKLMNOPQRSTUVWXYZ[\\]^_`abcdefghijklmnopqrstuvwxyz{|}~" t_CHARACTERS)))
    (y_LETTERS : PySem.W.nsIn K mainGlobals "LETTERS" = some (some (.str "abcdefghijklmnopqrstuvwxyz" t_LETTERS)))
    (y_DIGITS : PySem.W.nsIn K mainGlobals "DIGITS" = some (some (.str "0123456789" t_DIGITS)))
    (y_SIGNS : PySem.W.nsIn K mainGlobals "SIGNS" = some (some (.str "(),;+-*<=" t_SIGNS)))
    (uRA : PySem.W.nsIn K mainGlobals "RESERVED" = some (some (.ref ra)))
    (uRL : K.lookup ra = some ⟨.type "tuple", dR, .seq iR nR, sR⟩)
    (uRZ : iR.size ≤ sizeLine)
    (uRV : iR.toList.map strOf = kw13.map some)
    (uOpA : PySem.W.nsIn K mainGlobals "OPENING" = some (some (.ref ropen)))
    (uOpL : K.lookup ropen = some ⟨.type "tuple", dOp, .seq iOp nOp, sOp⟩)
    (uOpZ : iOp.size ≤ sizeLine)
    (uOpV : iOp.toList.map strOf = (["sign", "("] : List Str).map some)
    (uClA : PySem.W.nsIn K mainGlobals "CLOSING" = some (some (.ref rclose)))
    (uClL : K.lookup rclose = some ⟨.type "tuple", dCl, .seq iCl nCl, sCl⟩)
    (uClZ : iCl.size ≤ sizeLine)
    (uClV : iCl.toList.map strOf = (["sign", ")"] : List Str).map some)
    (tA : PySem.W.nsIn K mainGlobals "TIGHTNESS" = some (some (.ref rT)))
    (tL : K.lookup rT = some ⟨.type "dict", none, .dict esT nT, #[]⟩)
    (tK : PySem.W.KeysLit w.params esT.toList)
    (tN : (rT == sysModules) = false)
    (tv0 : PySem.W.nsIn K rT "if" = some (some (.int 0 vt0)))
    (tv1 : PySem.W.nsIn K rT "set" = some (some (.int 0 vt1)))
    (tv2 : PySem.W.nsIn K rT "=" = some (some (.int 1 vt2)))
    (tv3 : PySem.W.nsIn K rT "<" = some (some (.int 1 vt3)))
    (tv4 : PySem.W.nsIn K rT "+" = some (some (.int 2 vt4)))
    (tv5 : PySem.W.nsIn K rT "-" = some (some (.int 2 vt5)))
    (tv6 : PySem.W.nsIn K rT "*" = some (some (.int 3 vt6)))
    (tw0 : PySem.W.nsIn K rT "number" = some none)
    (tw1 : PySem.W.nsIn K rT "string" = some none)
    (tw2 : PySem.W.nsIn K rT "name" = some none)
    (tw3 : PySem.W.nsIn K rT "call" = some none)
    (tw4 : PySem.W.nsIn K rT "then" = some none)
    (oA : PySem.W.nsIn K mainGlobals "OPERANDS" = some (some (.ref rO)))
    (oL : K.lookup rO = some ⟨.type "dict", none, .dict esO nO, #[]⟩)
    (oK : PySem.W.KeysLit w.params esO.toList)
    (ov0 : PySem.W.nsIn K rO "*" = some (some (.ref rq0)))
    (uq0L : K.lookup rq0 = some ⟨.type "tuple", dq0, .seq iq0 nq0, sq0⟩)
    (uq0Z : iq0.size ≤ sizeLine)
    (uq0V : iq0.toList.map intOf = ([3, 4] : List Int).map some)
    (ov1 : PySem.W.nsIn K rO "+" = some (some (.ref rq1)))
    (uq1L : K.lookup rq1 = some ⟨.type "tuple", dq1, .seq iq1 nq1, sq1⟩)
    (uq1Z : iq1.size ≤ sizeLine)
    (uq1V : iq1.toList.map intOf = ([2, 3] : List Int).map some)
    (ov2 : PySem.W.nsIn K rO "-" = some (some (.ref rq2)))
    (uq2L : K.lookup rq2 = some ⟨.type "tuple", dq2, .seq iq2 nq2, sq2⟩)
    (uq2Z : iq2.size ≤ sizeLine)
    (uq2V : iq2.toList.map intOf = ([2, 3] : List Int).map some)
    (ov3 : PySem.W.nsIn K rO "<" = some (some (.ref rq3)))
    (uq3L : K.lookup rq3 = some ⟨.type "tuple", dq3, .seq iq3 nq3, sq3⟩)
    (uq3Z : iq3.size ≤ sizeLine)
    (uq3V : iq3.toList.map intOf = ([2, 2] : List Int).map some)
    (ov4 : PySem.W.nsIn K rO "=" = some (some (.ref rq4)))
    (uq4L : K.lookup rq4 = some ⟨.type "tuple", dq4, .seq iq4 nq4, sq4⟩)
    (uq4Z : iq4.size ≤ sizeLine)
    (uq4V : iq4.toList.map intOf = ([2, 2] : List Int).map some)
    (tlN : K.lookup tcN = some ⟨teN, tdN, .fields tuN, tsN⟩)
    (tkN : tuN[11]? = some (.ref tpN))
    (toN : K.lookup tpN = none)
    (tqN : ((recsOf q).any fun r => r.name == ("is_name" : Str)) = true)
    (tlV : K.lookup tcV = some ⟨teV, tdV, .fields tuV, tsV⟩)
    (tkV : tuV[11]? = some (.ref tpV))
    (toV : K.lookup tpV = none)
    (tqV : ((recsOf q).any fun r => r.name == ("is_value" : Str)) = true)
    (nNV : tpN ≠ tpV) :
    LawG l w K CX0 156 63 "script" mg fa h := by
  have g : ∀ {x : Str} {v : Value}, PySem.W.nsIn K mainGlobals x = some (some v) → mg x = some v := fun e => PySem.W.mg_of X G e
  have gz : ∀ {x : Str}, PySem.W.nsIn K mainGlobals x = some none → mg x = none := fun e => PySem.W.mg_none_of X G e
  have e := hfa.symm.trans (g a30)
  cases e
  have F1 := fun_mk (st := sIsName) l1 c1 k1
  have b1 := F1.binds (ps := ["text"]) fun _ _ _ _ _ _ us hl => match us, hl with | [_], _ => rfl
  have F2 := fun_mk (st := sIsValue) l2 c2 k2
  have b2 := F2.binds (ps := ["value"]) fun _ _ _ _ _ _ us hl => match us, hl with | [_], _ => rfl
  have F3 := fun_mk (st := sSplit) l3 c3 k3
  have b3 := F3.binds (ps := ["line"]) fun _ _ _ _ _ _ us hl => match us, hl with | [_], _ => rfl
  have F4 := fun_mk (st := sTokenAt) l4 c4 k4
  have b4 := F4.binds (ps := ["line", "at"]) fun _ _ _ _ _ _ us hl => match us, hl with | [_, _], _ => rfl
  have F5 := fun_mk (st := sWordAt) l5 c5 k5
  have b5 := F5.binds (ps := ["line", "at"]) fun _ _ _ _ _ _ us hl => match us, hl with | [_, _], _ => rfl
  have F6 := fun_mk (st := sNumberAt) l6 c6 k6
  have b6 := F6.binds (ps := ["line", "at"]) fun _ _ _ _ _ _ us hl => match us, hl with | [_, _], _ => rfl
  have F7 := fun_mk (st := sStringAt) l7 c7 k7
  have b7 := F7.binds (ps := ["line", "at"]) fun _ _ _ _ _ _ us hl => match us, hl with | [_, _], _ => rfl
  have F8 := fun_mk (st := sEndOfRun) l8 c8 k8
  have b8 := F8.binds (ps := ["line", "at", "characters"]) fun _ _ _ _ _ _ us hl => match us, hl with | [_, _, _], _ => rfl
  have F9 := fun_mk (st := sBounded) l9 c9 k9
  have b9 := F9.binds (ps := ["tree"]) fun _ _ _ _ _ _ us hl => match us, hl with | [_], _ => rfl
  have F10 := fun_mk (st := sParse) l10 c10 k10
  have b10 := F10.binds (ps := ["tokens"]) fun _ _ _ _ _ _ us hl => match us, hl with | [_], _ => rfl
  have F11 := fun_mk (st := sParts) l11 c11 k11
  have b11 := F11.binds (ps := ["tree"]) fun _ _ _ _ _ _ us hl => match us, hl with | [_], _ => rfl
  have F12 := fun_mk (st := sHeight) l12 c12 k12
  have b12 := F12.binds (ps := ["tree"]) fun _ _ _ _ _ _ us hl => match us, hl with | [_], _ => rfl
  have F13 := fun_mk (st := sWrite) l13 c13 k13
  have b13 := F13.binds (ps := ["tree"]) fun _ _ _ _ _ _ us hl => match us, hl with | [_], _ => rfl
  have F14 := fun_mk (st := sWCall) l14 c14 k14
  have b14 := F14.binds (ps := ["tree"]) fun _ _ _ _ _ _ us hl => match us, hl with | [_], _ => rfl
  have F15 := fun_mk (st := sWSeq) l15 c15 k15
  have b15 := F15.binds (ps := ["tree"]) fun _ _ _ _ _ _ us hl => match us, hl with | [_], _ => rfl
  have F16 := fun_mk (st := sWSigned) l16 c16 k16
  have b16 := F16.binds (ps := ["tree"]) fun _ _ _ _ _ _ us hl => match us, hl with | [_], _ => rfl
  have F17 := fun_mk (st := sWOper) l17 c17 k17
  have b17 := F17.binds (ps := ["tree", "least"]) fun _ _ _ _ _ _ us hl => match us, hl with | [_, _], _ => rfl
  have F18 := fun_mk (st := sCell) l18 c18 k18
  have b18 := F18.binds (ps := ["script", "k"]) fun _ _ _ _ _ _ us hl => match us, hl with | [_, _], _ => rfl
  have F19 := fun_mk (st := sDigits) l19 c19 k19
  have b19 := F19.binds (ps := ["script", "first", "last"]) fun _ _ _ _ _ _ us hl => match us, hl with | [_, _, _], _ => rfl
  have F20 := fun_mk (st := sDraw) l20 c20 k20
  have b20 := F20.binds (ps := ["box", "many"]) fun _ _ _ _ _ _ us hl => match us, hl with | [_, _], _ => rfl
  have F21 := fun_mk (st := sAtom) l21 c21 k21
  have b21 := F21.binds (ps := ["box", "names"]) fun _ _ _ _ _ _ us hl => match us, hl with | [_, _], _ => rfl
  have F22 := fun_mk (st := sTree) l22 c22 k22
  have b22 := F22.binds (ps := ["box", "names", "calls", "depth"]) fun _ _ _ _ _ _ us hl => match us, hl with | [_, _, _, _], _ => rfl
  have F23 := fun_mk (st := sLevel) l23 c23 k23
  have b23 := F23.binds (ps := ["tree"]) fun _ _ _ _ _ _ us hl => match us, hl with | [_], _ => rfl
  have F24 := fun_mk (st := sLRest) l24 c24 k24
  have b24 := F24.binds (ps := ["tree"]) fun _ _ _ _ _ _ us hl => match us, hl with | [_], _ => rfl
  have F25 := fun_mk (st := sLWrite) l25 c25 k25
  have b25 := F25.binds (ps := ["tree", "least"]) fun _ _ _ _ _ _ us hl => match us, hl with | [_, _], _ => rfl
  have F26 := fun_mk (st := sAlike) l26 c26 k26
  have b26 := F26.binds (ps := ["one", "two"]) fun _ _ _ _ _ _ us hl => match us, hl with | [_, _], _ => rfl
  have F27 := fun_mk (st := sLHeight) l27 c27 k27
  have b27 := F27.binds (ps := ["tree"]) fun _ _ _ _ _ _ us hl => match us, hl with | [_], _ => rfl
  have F28 := fun_mk (st := sLoose) l28 c28 k28
  have b28 := F28.binds (ps := ["box", "tree", "least"]) fun _ _ _ _ _ _ us hl => match us, hl with | [_, _, _], _ => rfl
  have F29 := fun_mk (st := sBounds) l29 c29 k29
  have b29 := F29.binds (ps := []) fun _ _ _ _ _ _ us hl => match us, hl with | [], _ => rfl
  have F30 := fun_mk (st := sLaw) l30 c30 k30
  have F31 := fun_mk (st := mInit) l31 c31 k31
  have b31 := F31.binds (ps := ["self", "tokens"]) fun _ _ _ _ _ _ us hl => match us, hl with | [_, _], _ => rfl
  have F32 := fun_mk (st := mAtEnd) l32 c32 k32
  have b32 := F32.binds (ps := ["self"]) fun _ _ _ _ _ _ us hl => match us, hl with | [_], _ => rfl
  have F33 := fun_mk (st := mNext) l33 c33 k33
  have b33 := F33.binds (ps := ["self", "token"]) fun _ _ _ _ _ _ us hl => match us, hl with | [_, _], _ => rfl
  have F34 := fun_mk (st := mAccept) l34 c34 k34
  have b34 := F34.binds (ps := ["self", "token"]) fun _ _ _ _ _ _ us hl => match us, hl with | [_, _], _ => rfl
  have F35 := fun_mk (st := mExpect) l35 c35 k35
  have b35 := F35.binds (ps := ["self", "token"]) fun _ _ _ _ _ _ us hl => match us, hl with | [_, _], _ => rfl
  have F36 := fun_mk (st := mTake) l36 c36 k36
  have b36 := F36.binds (ps := ["self"]) fun _ _ _ _ _ _ us hl => match us, hl with | [_], _ => rfl
  have F37 := fun_mk (st := mAccSign) l37 c37 k37
  have b37 := F37.binds (ps := ["self", "signs"]) fun _ _ _ _ _ _ us hl => match us, hl with | [_, _], _ => rfl
  have F38 := fun_mk (st := mWhole) l38 c38 k38
  have b38 := F38.binds (ps := ["self"]) fun _ _ _ _ _ _ us hl => match us, hl with | [_], _ => rfl
  have F39 := fun_mk (st := mChoice) l39 c39 k39
  have b39 := F39.binds (ps := ["self"]) fun _ _ _ _ _ _ us hl => match us, hl with | [_], _ => rfl
  have F40 := fun_mk (st := mSetting) l40 c40 k40
  have b40 := F40.binds (ps := ["self"]) fun _ _ _ _ _ _ us hl => match us, hl with | [_], _ => rfl
  have F41 := fun_mk (st := mBranch) l41 c41 k41
  have b41 := F41.binds (ps := ["self"]) fun _ _ _ _ _ _ us hl => match us, hl with | [_], _ => rfl
  have F42 := fun_mk (st := mTarget) l42 c42 k42
  have b42 := F42.binds (ps := ["self"]) fun _ _ _ _ _ _ us hl => match us, hl with | [_], _ => rfl
  have F43 := fun_mk (st := mCompared) l43 c43 k43
  have b43 := F43.binds (ps := ["self"]) fun _ _ _ _ _ _ us hl => match us, hl with | [_], _ => rfl
  have F44 := fun_mk (st := mAdded) l44 c44 k44
  have b44 := F44.binds (ps := ["self"]) fun _ _ _ _ _ _ us hl => match us, hl with | [_], _ => rfl
  have F45 := fun_mk (st := mMult) l45 c45 k45
  have b45 := F45.binds (ps := ["self"]) fun _ _ _ _ _ _ us hl => match us, hl with | [_], _ => rfl
  have F46 := fun_mk (st := mAtom) l46 c46 k46
  have b46 := F46.binds (ps := ["self"]) fun _ _ _ _ _ _ us hl => match us, hl with | [_], _ => rfl
  have F47 := fun_mk (st := mArgs) l47 c47 k47
  have b47 := F47.binds (ps := ["self"]) fun _ _ _ _ _ _ us hl => match us, hl with | [_], _ => rfl
  have F48 := fun_mk (st := mSeq) l48 c48 k48
  have b48 := F48.binds (ps := ["self"]) fun _ _ _ _ _ _ us hl => match us, hl with | [_], _ => rfl
  have F49 := fun_mk (st := mWholes) l49 c49 k49
  have b49 := F49.binds (ps := ["self", "between"]) fun _ _ _ _ _ _ us hl => match us, hl with | [_, _], _ => rfl
  have F50 := fun_mk (st := mEnter) l50 c50 k50
  have b50 := F50.binds (ps := ["self"]) fun _ _ _ _ _ _ us hl => match us, hl with | [_], _ => rfl
  have F51 := fun_mk (st := mLeave) l51 c51 k51
  have b51 := F51.binds (ps := ["self"]) fun _ _ _ _ _ _ us hl => match us, hl with | [_], _ => rfl
  have hN := TB "is_name" f1 tcN tpN _ _ teN tdN tuN tsN tqN (g a1) l1 rfl rfl tlN tkN
  have hV := TB "is_value" f2 tcV tpV _ _ teV tdV tuV tsV tqV (g a2) l2 rfl rfl tlV tkV
  refine ⟨PySem.W.fnOf "law" "law" (defArgs sLaw) (defBody sLaw) (defScope sLaw) .none kV30 dc30 pm30 an30 cd30 ct30, [(tcN, tpN), (tcV, tpV)], spLaw K tpN tpV, fun p hp => ?_, fun p hp => ?_, fun p hp => ?_, fun s u => .of_eq rfl, fun H a ns hl _ hT hS => ?_, fun base _ _ hTB => ?_⟩
  · rcases List.mem_cons.mp hp with rfl | hp
    · exact hN.1
    rw [List.mem_singleton.mp hp]
    exact hV.1
  · rcases List.mem_cons.mp hp with rfl | hp
    · exact toN
    rw [List.mem_singleton.mp hp]
    exact toV
  · rcases List.mem_cons.mp hp with rfl | hp
    · exact hN.2
    rw [List.mem_singleton.mp hp]
    exact hV.2
  · refine ⟨a, ns, rfl, hS, ⟨#[], hT (tcN, tpN) List.mem_cons_self, trivial⟩, ⟨#[], hT (tcV, tpV) (List.mem_cons_of_mem _ List.mem_cons_self), trivial⟩, nNV, fun _ => rfl⟩
  ·
    have tbN := hTB (tcN, tpN) List.mem_cons_self
    have tbV := hTB (tcV, tpV) (List.mem_cons_of_mem _ List.mem_cons_self)
    have T : Txt K mg := ⟨gz z_len, gz z_range, gz z_bint, gz z_bstr, gz z_bbool, gz z_blist, gz z_repr, gz z_isinstance, gz z_ord, gz z_all, ⟨_, g y_NAME_MOST⟩, ⟨_, g y_NUMBER_MOST⟩, ⟨_, g y_STRING_MOST⟩, ⟨_, g y_CHARACTERS⟩, ⟨_, g y_LETTERS⟩, ⟨_, g y_DIGITS⟩, ⟨_, g y_SIGNS⟩, ⟨ra, g uRA, fun H => .inr ⟨_, iR, nR, uRL, rfl, rfl, uRZ, vals_strs _ _ uRV⟩⟩⟩
    have R : TxR K mg CR EN := ⟨⟨pgR, hdR, poR, saR⟩, naR0, naR1, naR2, naR3, g gR, g xN, exN, ekN, ebN, etN, exmSame ebN eiN etN esN, ⟨_, g y_NESTED_MOST⟩, ⟨_, g y_HEIGHT_MOST⟩, ⟨ropen, g uOpA, fun H => .inr ⟨_, iOp, nOp, uOpL, rfl, rfl, uOpZ, vals_strs _ _ uOpV⟩⟩, ⟨rclose, g uClA, fun H => .inr ⟨_, iCl, nCl, uClL, rfl, rfl, uClZ, vals_strs _ _ uClV⟩⟩⟩
    have T2 : Txt2 mg := ⟨gz z_btuple, gz z_max⟩
    have tO : ∀ c ∈ opsM, ∃ q, KDct K w rO (S [c]) (.ref q) ∧ ∀ H, SqT K H q [.int (lL c : Nat), .int (lR c : Nat)] := by
      intro c hc
      simp only [opsM, List.mem_cons, List.not_mem_nil, or_false] at hc
      rcases hc with rfl | rfl | rfl | rfl | rfl
      · exact ⟨rq0, ⟨_, _, _, oL, oK, ov0, rfl⟩, fun H => .inr ⟨_, iq0, nq0, uq0L, rfl, rfl, uq0Z, vals_ints [3, 4] _ uq0V⟩⟩
      · exact ⟨rq1, ⟨_, _, _, oL, oK, ov1, rfl⟩, fun H => .inr ⟨_, iq1, nq1, uq1L, rfl, rfl, uq1Z, vals_ints [2, 3] _ uq1V⟩⟩
      · exact ⟨rq2, ⟨_, _, _, oL, oK, ov2, rfl⟩, fun H => .inr ⟨_, iq2, nq2, uq2L, rfl, rfl, uq2Z, vals_ints [2, 3] _ uq2V⟩⟩
      · exact ⟨rq3, ⟨_, _, _, oL, oK, ov3, rfl⟩, fun H => .inr ⟨_, iq3, nq3, uq3L, rfl, rfl, uq3Z, vals_ints [2, 2] _ uq3V⟩⟩
      · exact ⟨rq4, ⟨_, _, _, oL, oK, ov4, rfl⟩, fun H => .inr ⟨_, iq4, nq4, uq4L, rfl, rfl, uq4Z, vals_ints [2, 2] _ uq4V⟩⟩
    have tT : ∀ p ∈ tightM, KAt K rT p.1 p.2 := by
      intro p hp
      simp only [tightM, List.mem_cons, List.not_mem_nil, or_false] at hp
      rcases hp with rfl | rfl | rfl | rfl | rfl | rfl | rfl | rfl | rfl | rfl | rfl | rfl
      · exact ⟨_, tv0, ⟨_, rfl⟩⟩
      · exact ⟨_, tv1, ⟨_, rfl⟩⟩
      · exact ⟨_, tv2, ⟨_, rfl⟩⟩
      · exact ⟨_, tv3, ⟨_, rfl⟩⟩
      · exact ⟨_, tv4, ⟨_, rfl⟩⟩
      · exact ⟨_, tv5, ⟨_, rfl⟩⟩
      · exact ⟨_, tv6, ⟨_, rfl⟩⟩
      · exact tw0
      · exact tw1
      · exact tw2
      · exact tw3
      · exact tw4
    have W : TxW K w mg := ⟨⟨rT, g tA, ⟨⟨_, _, tL, tK⟩, tN⟩, tT⟩, ⟨rO, g oA, tO⟩, ⟨_, g y_ATOM⟩⟩
    have oCell := ok_cell (P := l.prog) (w := w) (base := base) F18 T
    have oDraw : FO l.prog w K mg base CX0 1 "_law_draw" ["box", "many"] spDraw f20 _ := ⟨g a20, k20, b20, ok_draw F20 T⟩
    have oAlike := ok_alike (P := l.prog) (w := w) (base := base) F26 T
    have oDig := ok_digits F19 T oCell (g a18) k18 b18
    have oEnd := ok_end (P := l.prog) (w := w) (base := base) F8 T
    have oWord := ok_word (PT := tpV) F5 T oEnd (g a8) k8 b8
    have oNum := ok_num (PT := tpV) F6 T oEnd (g a8) k8 b8
    have oVal := ok_value (P := l.prog) (w := w) (base := base) l2 c2 rfl tbV T
    have oNam := ok_name (P := l.prog) (w := w) (base := base) l1 c1 rfl tbN T
    have oStr := ok_str F7 T oVal (g a2) k2 b2
    have oTA := ok_tokat F4 T (oWord.mono (by decide)) (g a5) k5 b5 (oNum.mono (by decide)) (g a6) k6 b6 oStr (g a7) k7 b7
    have oSplit := ok_split F3 T oTA (g a4) k4 b4
    have oParts := ok_parts (P := l.prog) (w := w) (mg := mg) (base := base) F11
    have oHt := ok_height F12 (gz z_max) (g a12) k12 b12 ⟨g a11, k11, b11, oParts⟩
    have oBnd := ok_bounded F9 R ⟨g a12, k12, b12, oHt 13⟩
    have oRd := fun RL => rd_rec (RL := RL) (base := base) (w := w) (P := l.prog) T R (gz z_btuple) (gz z_reversed) ⟨⟨a32, i32, k32⟩, b32, F32⟩ ⟨⟨a33, i33, k33⟩, b33, F33⟩ ⟨⟨a34, i34, k34⟩, b34, F34⟩
      ⟨⟨a35, i35, k35⟩, b35, F35⟩ ⟨⟨a36, i36, k36⟩, b36, F36⟩ ⟨⟨a37, i37, k37⟩, b37, F37⟩ ⟨⟨a38, i38, k38⟩, b38, F38⟩
      ⟨⟨a39, i39, k39⟩, b39, F39⟩ ⟨⟨a40, i40, k40⟩, b40, F40⟩ ⟨⟨a41, i41, k41⟩, b41, F41⟩ ⟨⟨a42, i42, k42⟩, b42, F42⟩
      ⟨⟨a43, i43, k43⟩, b43, F43⟩ ⟨⟨a44, i44, k44⟩, b44, F44⟩ ⟨⟨a45, i45, k45⟩, b45, F45⟩ ⟨⟨a46, i46, k46⟩, b46, F46⟩
      ⟨⟨a47, i47, k47⟩, b47, F47⟩ ⟨⟨a48, i48, k48⟩, b48, F48⟩ ⟨⟨a49, i49, k49⟩, b49, F49⟩ ⟨⟨a50, i50, k50⟩, b50, F50⟩ ⟨⟨a51, i51, k51⟩, b51, F51⟩
      ⟨g a9, k9, b9, oBnd⟩ ⟨g a1, k1, b1, oNam⟩ 30 0 0 (by decide) (by decide) (by decide)
    have oParse := ok_parse F10 R ⟨mkR, a31, i31, kcR⟩ b31 (ok_init F31 T R) ⟨a32, i32, k32⟩ b32 (fun RL => ok_atEnd (RL := RL) F32 T R) ⟨a38, i38, k38⟩ b38 oRd
    have oWr := ok_write (P := l.prog) (base := base) T W F13 (g a13) k13 b13 F14 (g a14) k14 b14 F15 (g a15) k15 b15 F16 (g a16) k16 b16 F17 (g a17) k17 b17 6
    have oAtom := ok_latom F21 T oDraw
    have oTree := ok_tree F22 T T2 oDraw ⟨g a21, k21, b21, oAtom⟩ (g a22) k22 b22 5
    have oLev := ok_level (P := l.prog) (w := w) (base := base) F23 T
    have oLW := (ok_lwrites (P := l.prog) (w := w) (base := base) T F25 (g a25) k25 b25 F24 (g a24) k24 b24 ⟨g a23, k23, b23, oLev⟩ 6).1
    have oLH := ok_lheight (P := l.prog) (w := w) (base := base) F27 T T2 (g a27) k27 b27 6
    have oLO := ok_loose F28 T (g a28) k28 b28 oLW ⟨g a23, k23, b23, oLev⟩ oDraw 5
    have oBo := ok_bounds F29 T ⟨g a10, k10, b10, oParse⟩ ⟨g a3, k3, b3, oSplit⟩ ⟨g a12, k12, b12, oHt 13⟩
    exact ok_law F30 T ⟨_, g y_NESTED_MOST⟩ ⟨_, g y_HEIGHT_MOST⟩ ⟨g a19, k19, b19, oDig⟩ oDraw ⟨g a22, k22, b22, oTree⟩ oLW ⟨oWr.m, oWr.kp, oWr.b, oWr.ok.mono (by decide)⟩ ⟨g a12, k12, b12, (oHt 13).mono (by decide)⟩ ⟨oLH.m, oLH.kp, oLH.b, oLH.ok.mono (by decide)⟩
      ⟨g a3, k3, b3, oSplit.mono (by decide)⟩ ⟨g a10, k10, b10, oParse⟩ ⟨oLO.m, oLO.kp, oLO.b, oLO.ok.mono (by decide)⟩ ⟨g a29, k29, b29, oBo⟩ oAlike (g a26) k26 b26
end K3

open PySem PySem.W PyProof.Rows
set_option maxRecDepth 100000 in
set_option maxHeartbeats 0 in
theorem PySem.Challenge.cw_sameasnew_k02_expressions_read_and_writt_holds : PySem.Challenge.rw_sameasnew_k02_expressions_read_and_writt.Holds := by
  w_on; o_law; k_head; (case hw => w_witness2)
  k_fill
  refine GD.walk_ofG (l := PySem.Challenge.rw_sameasnew_k02_expressions_read_and_writt) (n := 63) (k := 156) (x := "script") (CX := fun _ => L2.CX0) rfl (by decide) rfl ⟨rfl, by decide, by decide⟩ (fun w h Y => PySem.W.kIn_of Y) ?F (fun _ _ _ _ _ h => h)
  case F =>
    intro w mg fa h Y KX G hmg TB
    refine' K3.end_at KX G hmg TB ?gR ?xN ?a1 ?l1 ?c1 ?k1 ?a2 ?l2 ?c2 ?k2 ?a3 ?l3 ?c3 ?k3 ?a4 ?l4 ?c4 ?k4 ?a5 ?l5 ?c5 ?k5 ?a6 ?l6 ?c6 ?k6 ?a7 ?l7 ?c7 ?k7 ?a8 ?l8 ?c8 ?k8 ?a9 ?l9 ?c9 ?k9 ?a10 ?l10 ?c10 ?k10 ?a11 ?l11 ?c11 ?k11 ?a12 ?l12 ?c12 ?k12 ?a13 ?l13 ?c13 ?k13 ?a14 ?l14 ?c14 ?k14 ?a15 ?l15 ?c15 ?k15 ?a16 ?l16 ?c16 ?k16 ?a17 ?l17 ?c17 ?k17 ?a18 ?l18 ?c18 ?k18 ?a19 ?l19 ?c19 ?k19 ?a20 ?l20 ?c20 ?k20 ?a21 ?l21 ?c21 ?k21 ?a22 ?l22 ?c22 ?k22 ?a23 ?l23 ?c23 ?k23 ?a24 ?l24 ?c24 ?k24 ?a25 ?l25 ?c25 ?k25 ?a26 ?l26 ?c26 ?k26 ?a27 ?l27 ?c27 ?k27 ?a28 ?l28 ?c28 ?k28 ?a29 ?l29 ?c29 ?k29 ?a30 ?l30 ?c30 ?k30 ?a31 ?i31 ?l31 ?c31 ?k31 ?a32 ?i32 ?l32 ?c32 ?k32 ?a33 ?i33 ?l33 ?c33 ?k33 ?a34 ?i34 ?l34 ?c34 ?k34 ?a35 ?i35 ?l35 ?c35 ?k35 ?a36 ?i36 ?l36 ?c36 ?k36 ?a37 ?i37 ?l37 ?c37 ?k37 ?a38 ?i38 ?l38 ?c38 ?k38 ?a39 ?i39 ?l39 ?c39 ?k39 ?a40 ?i40 ?l40 ?c40 ?k40 ?a41 ?i41 ?l41 ?c41 ?k41 ?a42 ?i42 ?l42 ?c42 ?k42 ?a43 ?i43 ?l43 ?c43 ?k43 ?a44 ?i44 ?l44 ?c44 ?k44 ?a45 ?i45 ?l45 ?c45 ?k45 ?a46 ?i46 ?l46 ?c46 ?k46 ?a47 ?i47 ?l47 ?c47 ?k47 ?a48 ?i48 ?l48 ?c48 ?k48 ?a49 ?i49 ?l49 ?c49 ?k49 ?a50 ?i50 ?l50 ?c50 ?k50 ?a51 ?i51 ?l51 ?c51 ?k51 ?pgR ?hdR ?poR ?saR ?mkR ?kcR ?naR0 ?naR1 ?naR2 ?naR3 ?exN ?ekN ?ebN ?etN ?eiN ?esN ?z_len ?z_range ?z_bint ?z_bstr ?z_bbool ?z_blist ?z_repr ?z_isinstance ?z_ord ?z_all ?z_btuple ?z_max ?z_reversed ?y_NAME_MOST ?y_NUMBER_MOST ?y_STRING_MOST ?y_NESTED_MOST ?y_HEIGHT_MOST ?y_ATOM ?y_CHARACTERS ?y_LETTERS ?y_DIGITS ?y_SIGNS ?uRA ?uRL ?uRZ ?uRV ?uOpA ?uOpL ?uOpZ ?uOpV ?uClA ?uClL ?uClZ ?uClV ?tA ?tL ?tK ?tN ?tv0 ?tv1 ?tv2 ?tv3 ?tv4 ?tv5 ?tv6 ?tw0 ?tw1 ?tw2 ?tw3 ?tw4 ?oA ?oL ?oK ?ov0 ?uq0L ?uq0Z ?uq0V ?ov1 ?uq1L ?uq1Z ?uq1V ?ov2 ?uq2L ?uq2Z ?uq2V ?ov3 ?uq3L ?uq3Z ?uq3V ?ov4 ?uq4L ?uq4Z ?uq4V ?tlN ?tkN ?toN ?tqN ?tlV ?tkV ?toV ?tqV ?nNV
    (case gR => k_is)
    (case xN => k_is)
    (case a1 => k_is)
    (case l1 => k_is)
    (case c1 => k_is)
    (case k1 => k_is)
    (case a2 => k_is)
    (case l2 => k_is)
    (case c2 => k_is)
    (case k2 => k_is)
    (case a3 => k_is)
    (case l3 => k_is)
    (case c3 => k_is)
    (case k3 => k_is)
    (case a4 => k_is)
    (case l4 => k_is)
    (case c4 => k_is)
    (case k4 => k_is)
    (case a5 => k_is)
    (case l5 => k_is)
    (case c5 => k_is)
    (case k5 => k_is)
    (case a6 => k_is)
    (case l6 => k_is)
    (case c6 => k_is)
    (case k6 => k_is)
    (case a7 => k_is)
    (case l7 => k_is)
    (case c7 => k_is)
    (case k7 => k_is)
    (case a8 => k_is)
    (case l8 => k_is)
    (case c8 => k_is)
    (case k8 => k_is)
    (case a9 => k_is)
    (case l9 => k_is)
    (case c9 => k_is)
    (case k9 => k_is)
    (case a10 => k_is)
    (case l10 => k_is)
    (case c10 => k_is)
    (case k10 => k_is)
    (case a11 => k_is)
    (case l11 => k_is)
    (case c11 => k_is)
    (case k11 => k_is)
    (case a12 => k_is)
    (case l12 => k_is)
    (case c12 => k_is)
    (case k12 => k_is)
    (case a13 => k_is)
    (case l13 => k_is)
    (case c13 => k_is)
    (case k13 => k_is)
    (case a14 => k_is)
    (case l14 => k_is)
    (case c14 => k_is)
    (case k14 => k_is)
    (case a15 => k_is)
    (case l15 => k_is)
    (case c15 => k_is)
    (case k15 => k_is)
    (case a16 => k_is)
    (case l16 => k_is)
    (case c16 => k_is)
    (case k16 => k_is)
    (case a17 => k_is)
    (case l17 => k_is)
    (case c17 => k_is)
    (case k17 => k_is)
    (case a18 => k_is)
    (case l18 => k_is)
    (case c18 => k_is)
    (case k18 => k_is)
    (case a19 => k_is)
    (case l19 => k_is)
    (case c19 => k_is)
    (case k19 => k_is)
    (case a20 => k_is)
    (case l20 => k_is)
    (case c20 => k_is)
    (case k20 => k_is)
    (case a21 => k_is)
    (case l21 => k_is)
    (case c21 => k_is)
    (case k21 => k_is)
    (case a22 => k_is)
    (case l22 => k_is)
    (case c22 => k_is)
    (case k22 => k_is)
    (case a23 => k_is)
    (case l23 => k_is)
    (case c23 => k_is)
    (case k23 => k_is)
    (case a24 => k_is)
    (case l24 => k_is)
    (case c24 => k_is)
    (case k24 => k_is)
    (case a25 => k_is)
    (case l25 => k_is)
    (case c25 => k_is)
    (case k25 => k_is)
    (case a26 => k_is)
    (case l26 => k_is)
    (case c26 => k_is)
    (case k26 => k_is)
    (case a27 => k_is)
    (case l27 => k_is)
    (case c27 => k_is)
    (case k27 => k_is)
    (case a28 => k_is)
    (case l28 => k_is)
    (case c28 => k_is)
    (case k28 => k_is)
    (case a29 => k_is)
    (case l29 => k_is)
    (case c29 => k_is)
    (case k29 => k_is)
    (case a30 => k_is)
    (case l30 => k_is)
    (case c30 => k_is)
    (case k30 => k_is)
    (case a31 => k_is)
    (case i31 => k_is)
    (case l31 => k_is)
    (case c31 => k_is)
    (case k31 => k_is)
    (case a32 => k_is)
    (case i32 => k_is)
    (case l32 => k_is)
    (case c32 => k_is)
    (case k32 => k_is)
    (case a33 => k_is)
    (case i33 => k_is)
    (case l33 => k_is)
    (case c33 => k_is)
    (case k33 => k_is)
    (case a34 => k_is)
    (case i34 => k_is)
    (case l34 => k_is)
    (case c34 => k_is)
    (case k34 => k_is)
    (case a35 => k_is)
    (case i35 => k_is)
    (case l35 => k_is)
    (case c35 => k_is)
    (case k35 => k_is)
    (case a36 => k_is)
    (case i36 => k_is)
    (case l36 => k_is)
    (case c36 => k_is)
    (case k36 => k_is)
    (case a37 => k_is)
    (case i37 => k_is)
    (case l37 => k_is)
    (case c37 => k_is)
    (case k37 => k_is)
    (case a38 => k_is)
    (case i38 => k_is)
    (case l38 => k_is)
    (case c38 => k_is)
    (case k38 => k_is)
    (case a39 => k_is)
    (case i39 => k_is)
    (case l39 => k_is)
    (case c39 => k_is)
    (case k39 => k_is)
    (case a40 => k_is)
    (case i40 => k_is)
    (case l40 => k_is)
    (case c40 => k_is)
    (case k40 => k_is)
    (case a41 => k_is)
    (case i41 => k_is)
    (case l41 => k_is)
    (case c41 => k_is)
    (case k41 => k_is)
    (case a42 => k_is)
    (case i42 => k_is)
    (case l42 => k_is)
    (case c42 => k_is)
    (case k42 => k_is)
    (case a43 => k_is)
    (case i43 => k_is)
    (case l43 => k_is)
    (case c43 => k_is)
    (case k43 => k_is)
    (case a44 => k_is)
    (case i44 => k_is)
    (case l44 => k_is)
    (case c44 => k_is)
    (case k44 => k_is)
    (case a45 => k_is)
    (case i45 => k_is)
    (case l45 => k_is)
    (case c45 => k_is)
    (case k45 => k_is)
    (case a46 => k_is)
    (case i46 => k_is)
    (case l46 => k_is)
    (case c46 => k_is)
    (case k46 => k_is)
    (case a47 => k_is)
    (case i47 => k_is)
    (case l47 => k_is)
    (case c47 => k_is)
    (case k47 => k_is)
    (case a48 => k_is)
    (case i48 => k_is)
    (case l48 => k_is)
    (case c48 => k_is)
    (case k48 => k_is)
    (case a49 => k_is)
    (case i49 => k_is)
    (case l49 => k_is)
    (case c49 => k_is)
    (case k49 => k_is)
    (case a50 => k_is)
    (case i50 => k_is)
    (case l50 => k_is)
    (case c50 => k_is)
    (case k50 => k_is)
    (case a51 => k_is)
    (case i51 => k_is)
    (case l51 => k_is)
    (case c51 => k_is)
    (case k51 => k_is)
    (case pgR => k_is)
    (case hdR => k_is)
    (case poR => k_is)
    (case saR => k_is)
    (case mkR => k_is)
    (case kcR => k_is)
    (case naR0 => k_is)
    (case naR1 => k_is)
    (case naR2 => k_is)
    (case naR3 => k_is)
    (case exN => k_exc)
    (case ekN => k_is)
    (case ebN => k_is)
    (case etN => k_is)
    (case eiN => k_is)
    (case esN => first | rfl | k_is)
    (case z_len => k_is)
    (case z_range => k_is)
    (case z_bint => k_is)
    (case z_bstr => k_is)
    (case z_bbool => k_is)
    (case z_blist => k_is)
    (case z_repr => k_is)
    (case z_isinstance => k_is)
    (case z_ord => k_is)
    (case z_all => k_is)
    (case z_btuple => k_is)
    (case z_max => k_is)
    (case z_reversed => k_is)
    (case y_NAME_MOST => k_is)
    (case y_NUMBER_MOST => k_is)
    (case y_STRING_MOST => k_is)
    (case y_NESTED_MOST => k_is)
    (case y_HEIGHT_MOST => k_is)
    (case y_ATOM => k_is)
    (case y_CHARACTERS => k_is)
    (case y_LETTERS => k_is)
    (case y_DIGITS => k_is)
    (case y_SIGNS => k_is)
    (case uRA => k_is)
    (case uRL => k_is)
    (case uRZ => decide)
    (case uRV => rfl)
    (case uOpA => k_is)
    (case uOpL => k_is)
    (case uOpZ => decide)
    (case uOpV => rfl)
    (case uClA => k_is)
    (case uClL => k_is)
    (case uClZ => decide)
    (case uClV => rfl)
    (case tA => k_is)
    (case tL => k_is)
    (case tK => first | k_is | exact ⟨⟨_, _, rfl, rfl⟩, ⟨_, _, rfl, rfl⟩, ⟨_, _, rfl, rfl⟩, ⟨_, _, rfl, rfl⟩, ⟨_, _, rfl, rfl⟩, trivial⟩ | exact ⟨⟨_, _, rfl, rfl⟩, ⟨_, _, rfl, rfl⟩, ⟨_, _, rfl, rfl⟩, ⟨_, _, rfl, rfl⟩, ⟨_, _, rfl, rfl⟩, ⟨_, _, rfl, rfl⟩, ⟨_, _, rfl, rfl⟩, trivial⟩)
    (case tN => decide)
    (case tv0 => k_is)
    (case tv1 => k_is)
    (case tv2 => k_is)
    (case tv3 => k_is)
    (case tv4 => k_is)
    (case tv5 => k_is)
    (case tv6 => k_is)
    (case tw0 => k_is)
    (case tw1 => k_is)
    (case tw2 => k_is)
    (case tw3 => k_is)
    (case tw4 => k_is)
    (case oA => k_is)
    (case oL => k_is)
    (case oK => first | k_is | exact ⟨⟨_, _, rfl, rfl⟩, ⟨_, _, rfl, rfl⟩, ⟨_, _, rfl, rfl⟩, ⟨_, _, rfl, rfl⟩, ⟨_, _, rfl, rfl⟩, trivial⟩ | exact ⟨⟨_, _, rfl, rfl⟩, ⟨_, _, rfl, rfl⟩, ⟨_, _, rfl, rfl⟩, ⟨_, _, rfl, rfl⟩, ⟨_, _, rfl, rfl⟩, ⟨_, _, rfl, rfl⟩, ⟨_, _, rfl, rfl⟩, trivial⟩)
    (case ov0 => k_is)
    (case uq0L => k_is)
    (case uq0Z => decide)
    (case uq0V => rfl)
    (case ov1 => k_is)
    (case uq1L => k_is)
    (case uq1Z => decide)
    (case uq1V => rfl)
    (case ov2 => k_is)
    (case uq2L => k_is)
    (case uq2Z => decide)
    (case uq2V => rfl)
    (case ov3 => k_is)
    (case uq3L => k_is)
    (case uq3Z => decide)
    (case uq3V => rfl)
    (case ov4 => k_is)
    (case uq4L => k_is)
    (case uq4Z => decide)
    (case uq4V => rfl)
    (case tlN => k_is)
    (case tkN => rfl)
    (case toN => first | rfl | kernel_rfl | decide +kernel)
    (case tqN => decide +kernel)
    (case tlV => k_is)
    (case tkV => rfl)
    (case toV => first | rfl | kernel_rfl | decide +kernel)
    (case tqV => decide +kernel)
    (case nNV => decide)
