import PyProof.Rows.All
import Wide.All
import OpenK.AllK
import Wide.FinOn
import HandS.ForMost
import HandS.AnyAll
import HandS.EndTab
import PyProof.GenCompD
import KE.KIntText
import HandS.StrMore
import HandS.ExcInit
import HandS.Nested
import KE.KExcSuper
import HandS.TryMany
import HandS.ExcField
import HandS.ExcIs
import HandS.Walk
import HandS.TryOnly
import HandS.DictComp
import HandS.IsInst
import HandS.Codes
import HandS.RaiseMore
import HandS.FStr
import HandS.WordsExc
import HandS.ExcOwn
import PySem.Challenge.RW_sameasnew_k42_cut_on_schedule
set_option Elab.async false
set_option linter.all false
set_option maxRecDepth 100000
set_option maxHeartbeats 4000000
/-! My own small layer over HandS: promises of defs that hold where no repr is under way (guards = []), the repr of data, the end with tables. -/
namespace GD
open PySem PySem.Spec PyProof.Rows L2

/-- a promise that is kept where nothing is being shown -/
structure FnG (P : Program) (w : World) (K : PySem.W.Frag) (mg : Str → Option Value) (base : Heap)
    (CX : CXT) (k : Nat) (f : Addr) (fd : FuncData) (ps : List Str) (sp : Sp) : Prop where
  size : ∀ vs H Q E, sp vs H Q E → vs.length = ps.length
  go : ∀ (A : Around) (outer : List Env) (s : Shared) (H : Hp) (args : Args) (us : List Value)
    (vs : List V) (Q : VK) (E : XK), A.guards = some [] → Room k A →
    Env0 P w K mg base A outer s H → BindsTo s fd args (ps.zip us) → Vals vs us → sp vs H Q E →
    codeAny (model P w) A (.call (.ref f) args) (CR CX outer P w H s Q E) s

section
variable {P : Program} {w : World} {K : PySem.W.Frag} {mg : Str → Option Value} {base : Heap}
variable {CX : CXT} {k : Nat} {f : Addr} {fd : FuncData} {ps : List Str} {sp : Sp}
theorem FnG.of (F : FnOk P w K mg base CX k f fd ps sp) : FnG P w K mg base CX k f fd ps sp :=
  ⟨F.len, fun A outer s H args us vs Q E _ => F.run A outer s H args us vs Q E⟩

/-- a def of the text by its body, with what is known of the guards -/
theorem fnG_of {name qual : Str} {params : Arguments} {body : List Stmt} {scope : Scope}
    {dV kV doc pm cdv ct oc : Value} {an od : Option Addr} {osl : Array (Option Value)} {N : List Str}
    (lk : K.lookup f = some ⟨oc, od, .func (PySem.W.fnOf name qual params body scope dV kV doc pm an cdv ct), osl⟩)
    (hcd : PySem.W.codeIn K cdv qual = true) (S : FnScope N ps scope)
    (size : ∀ vs H Q E, sp vs H Q E → vs.length = ps.length)
    (hbody : ∀ (A : Around) (outer : List Env) (s : Shared) (H : Hp) (vs : List V) (Q : VK) (E : XK),
      (A.deeper (envOfC qual scope s.heap.objs.size f cdv)).guards = some [] →
      Room k (A.deeper (envOfC qual scope s.heap.objs.size f cdv)) → sp vs H Q E →
      ∃ t, PSs (cxOf CX P w K mg base N qual scope f cdv A outer s H E) body t ∧
        t { nx := fun _ H' => Q .non H', rt := Q } (start N vs) H) :
    FnG P w K mg base CX (k + 1) f (PySem.W.fnOf name qual params body scope dV kV doc pm an cdv ct) ps sp := by
  refine ⟨size, fun A outer s H args us vs Q E hgd hr z0 hb r hs => ?_⟩
  have hl := size _ _ _ _ hs
  have kx : K.In s.heap := z0.mod.kin.keeps fun b o e => (z0.bs b o e).1
  have nl : s.heap.NoLimit := z0.mod.nolimit.keeps fun b o e => (z0.bs b o e).1
  have kind : ∀ y ∈ ps.zip us, scope.names.lookup y.1 = some .local ∨
      (scope.names.lookup y.1 = some .cell ∧
        ((cellsFrom (s.heap.objs.size + 1) scope.names []).lookup y.1).isSome = true) := by
    rintro ⟨n, v⟩ hy
    rcases S.par n (List.of_mem_zip hy).1 with q | q
    · exact .inl q
    · exact .inr ⟨q, PySem.W.cellsFrom_some _ _ _ (.inl q)⟩
  refine codeAny_call_function hr.depth (kx _ _ lk) rfl S.co S.gen rfl (PySem.W.codeRec_of kx hcd) (hb _ _ _ _ ?_)
  refine wpAny_newFunctionEnv_cells S.kind kind fun env he s1 x => ?_
  subst he
  refine ⟨nl.keeps x.toInCall.keep, codeAny_func ?_⟩
  obtain ⟨t, ht, hq⟩ := hbody A outer s H vs Q E hgd (hr.deeper _) hs
  have J := inv_start (CX := CX) (E := E) (qual := qual) (f := f) (cd := cdv) S hr.hd z0 hl r x
  refine wpAny_mono (ht.run [] s1 (start N vs) H _ J hq) (fun fl s' hs' => ?_) fun e s' hs' => hs'
  cases fl with
  | ret u =>
    obtain ⟨v, σ2, H2, I2, rv, q⟩ := hs'
    exact ⟨v, H2, I2.os, I2.bare, I2.base, I2.hok, rv, q⟩
  | next =>
    obtain ⟨σ2, H2, I2, q⟩ := hs'
    exact ⟨V.non, H2, I2.os, I2.bare, I2.base, I2.hok, rfl, q⟩
  | brk =>
    obtain ⟨_, _, _, q⟩ := hs'
    exact q.elim
  | cont =>
    obtain ⟨_, _, _, q⟩ := hs'
    exact q.elim

theorem okG {x qual : Str} {st : Stmt} {N : List Str} (F : Fun K x qual st f fd) (S : FnScope N ps (defScope st))
    (size : ∀ vs H Q E, sp vs H Q E → vs.length = ps.length)
    (hbody : ∀ (cdv : Value) (A : Around) (outer : List Env) (s : Shared) (H : Hp) (vs : List V) (Q : VK) (E : XK),
      (A.deeper (envOfC qual (defScope st) s.heap.objs.size f cdv)).guards = some [] →
      Room k (A.deeper (envOfC qual (defScope st) s.heap.objs.size f cdv)) → sp vs H Q E →
      ∃ t, PSs (cxOf CX0 P w K mg base N qual (defScope st) f cdv A outer s H E).nox (defBody st) t ∧
        t { nx := fun _ H' => Q .non H', rt := Q } (start N vs) H) :
    FnG P w K mg base CX0 (k + 1) f fd ps sp := by
  obtain ⟨oc, od, kV, doc, pm, an, cdv, ct, osl, rfl, lk, hcd⟩ := F.ex
  refine fnG_of lk hcd S size fun A outer s H vs Q E hgd hr hs => ?_
  obtain ⟨t, h, q⟩ := hbody cdv A outer s H vs Q E hgd hr hs
  exact ⟨t, h.nox, q⟩

/-- a def of the text, where its code object is asked for: k is what stands of it in the written part -/
theorem okC {x qual : Str} {st : Stmt} {N : List Str} {oc : Value} {od an : Option Addr} {osl : Array (Option Value)} {kV doc pm cdv ct : Value}
    (lk : K.lookup f = some ⟨oc, od, .func (PySem.W.fnOf x qual (defArgs st) (defBody st) (defScope st) .none kV doc pm an cdv ct), osl⟩)
    (hcd : PySem.W.codeIn K cdv qual = true) (S : FnScope N ps (defScope st))
    (size : ∀ vs H Q E, sp vs H Q E → vs.length = ps.length)
    (hbody : ∀ (A : Around) (outer : List Env) (s : Shared) (H : Hp) (vs : List V) (Q : VK) (E : XK),
      Room k (A.deeper (envOfC qual (defScope st) s.heap.objs.size f cdv)) → sp vs H Q E →
      ∃ t, PSs (cxOf CX0 P w K mg base N qual (defScope st) f cdv A outer s H E).nox (defBody st) t ∧
        t { nx := fun _ H' => Q .non H', rt := Q } (start N vs) H) :
    FnOk P w K mg base CX0 (k + 1) f (PySem.W.fnOf x qual (defArgs st) (defBody st) (defScope st) .none kV doc pm an cdv ct) ps sp := by
  refine fn_of lk hcd S size fun A outer s H vs Q E hr hs => ?_
  obtain ⟨t, h, q⟩ := hbody A outer s H vs Q E hr hs
  exact ⟨t, h.nox, q⟩
end

section
variable {X : Cx} {CX : CXT} {k : Nat} {f : Addr} {fd : FuncData} {ps : List Str} {sp : Sp} {dvs : List V}
variable {ds : List Value} {E : XK} {x : Str} {p pos : Pos} {e : Expr} {es : List Expr} {t : TA}
/-- a call of such a def -/
theorem pe_callG (F : FnG X.prog X.w X.K X.mg X.base CX k f fd ps sp) (hgd : X.A.guards = some []) (hr : Room k X.A) (hg : Gl X x)
    (hm : X.mg x = some (.ref f)) (hk : PySem.W.keepIn X.K (.ref f) = true) (hb : Binds X.K fd ps ds) (hd : Vals dvs ds) (hx : Passes CX X E)
    (ha : PA X (e :: es) t) (hdb : (x == ("__debug__" : Str)) = false := by decide)
    (he : starEach (e :: es) X.env = (false, eval e X.env) :: starEach es X.env := by rfl)
    (hpl : (backTo pos (starEach es X.env)).any (·.1) = false := by rfl) :
    PE X (.Call (.Name x p) (e :: es) [] pos) (tCall sp dvs E t) := by
  refine ⟨fun pins s σ H Q I h => wpAny_Call_Name_kw (ld_glob I hg hm ?_ hdb)⟩
  refine PySem.W.callWith_K (h₀ := X.base) I.ok.mod.kin hk (thn (ha.run pos pins s σ H _ I h) fun us s1 hh => ?_) he hpl
  obtain ⟨vs, H1, I1, r, q⟩ := hh
  refine ⟨I1.kIn, ?_⟩
  have r2 : Vals (vs ++ dvs) (us ++ ds) := r.append hd
  have hl : (us ++ ds).length = ps.length := by
    rw [← r2.length]
    exact F.size _ _ _ _ q
  refine wpAny_call (codeAny_mono (F.go X.A X.stack s1 H1 ⟨us, []⟩ (us ++ ds) (vs ++ dvs) Q E hgd hr I1.env0 (hb s1 us I1.kIn hl) r2 q) fun r s' hq => ?_)
  cases r with
  | error e => exact hx pins σ H1 s1 e s' I1 hq
  | ok fl =>
    cases fl with
    | ret u => exact I1.after hq
    | next => exact hq.elim
    | brk => exact hq.elim
    | cont => exact hq.elim

/-! ### repr of data -/
/-- repr(x) of none-free data: what it shows -/
theorem cr_repr (hgd : X.A.guards = some []) (hu : X.A.units + 64 < cLine) : CallR X (.builtin "repr") (fun xs H Q => ∃ (v : V) (d : PyData), xs = [v] ∧ Dp X.K H v d ∧ d ≠ .none ∧
    d.showable = true ∧ d.hasDict = false ∧ d.depth ≤ 60 ∧ d.shown.length ≤ sizeLine ∧ Q (.str d.shown) H) := by
  intro pins s σ H xs us Q I r h
  obtain ⟨v, d, rfl, hd, hnn, hs, hn, hdp, hz, q⟩ := h
  obtain ⟨u, rfl, ru⟩ := vals1 r
  have fin : ∀ tk, EP X pins σ Q (.str d.shown tk) s := fun tk => ⟨.str _, H, I, ⟨_, rfl⟩, q⟩
  cases hd with
  | non => exact absurd rfl hnn
  | bl b =>
    obtain rfl : u = Value.bool b := ru
    refine PySem.P.repr_of_bool ?_
    have e : (PyData.bool b).shown = (if b then ("True" : Str) else "False") := by
      simp only [PyData.shown]
    rw [e] at q
    cases b
    · exact ⟨.str _, H, I.tok _, ⟨_, rfl⟩, q⟩
    · exact ⟨.str _, H, I.tok _, ⟨_, rfl⟩, q⟩
  | int i =>
    obtain ⟨t, rfl⟩ := ru
    refine PySem.P.repr_of_int ?_ ⟨.str _, H, I.tok _, ⟨_, rfl⟩, ?_⟩
    · simpa only [PyData.showable, decide_eq_true_eq] using hs
    · simpa only [PyData.shown] using q
  | str a =>
    obtain ⟨t, rfl⟩ := ru
    refine PySem.P.repr_of_str ⟨.str _, H, I.tok _, ⟨_, rfl⟩, ?_⟩ ?_
    · simpa only [PyData.shown] using q
    · simpa only [PyData.shown] using hz
  | lst hs' ha' =>
    obtain rfl : u = Value.ref _ := ru
    obtain ⟨as, rr⟩ := Dp.reads I _ _ _ (Dp.lst hs' ha') rfl
    exact repr_of_reads' rr hs (PyData.noDict_hsm hn) hgd (by omega) (fun _ _ e => e)
      (fun h' u tk hk => ⟨.str _, H, I.kept hk, ⟨_, rfl⟩, q⟩) hz
  | tup hs' ha' =>
    obtain rfl : u = Value.ref _ := ru
    obtain ⟨as, rr⟩ := Dp.reads I _ _ _ (Dp.tup hs' ha') rfl
    exact repr_of_reads' rr hs (PyData.noDict_hsm hn) hgd (by omega) (fun _ _ e => e)
      (fun h' u tk hk => ⟨.str _, H, I.kept hk, ⟨_, rfl⟩, q⟩) hz
end
end GD

set_option maxRecDepth 100000
set_option maxHeartbeats 4000000
namespace GD
open PySem PySem.Spec PyProof.Rows L2

/-- an empty table of a code object -/
abbrev tb0 : Obj := { cls := .none, data := .fields #[] }
/-- the script as it is laid -/
abbrev so (vs : List Value) : Obj := { cls := .type "list", data := .seq vs.toArray }
/-- at the entry: the tables at T, and the script unless it belongs to the written part -/
def atEntry (K : PySem.W.Frag) (T : List Addr) (a : Addr) (vs : List Value) (ns : List Int) : Hp := fun b =>
  if b ∈ T then some (.tbl #[]) else if b = a ∧ K.lookup a = none then some (.frz (so vs) (.lst (ns.map V.int))) else none

section
variable {P : Program} {w : World} {K : PySem.W.Frag} {mg mb : Str → Option Value} {CX : CXT} {k : Nat} {fa a : Addr}
variable {cs : List (Addr × Addr)} {fd : FuncData} {x : Str} {sp : Sp} {s₁ : Shared} {vs : List Value} {ns : List Int}
theorem entry_call (kx : K.In s₁.heap) (hns : s₁.heap.Ns mainGlobals mg) (hb : s₁.heap.Ns builtinsNs mb)
    (hbb : ∀ x : Str, x ≠ "__name__" → mb x = bootBuiltins x) (hlim : s₁.heap.NoLimit) (hg : s₁.gens = #[])
    (hT : ∀ p ∈ cs, s₁.heap.get? p.2 = some tb0) (nT : ∀ p ∈ cs, K.lookup p.2 = none) (C : ∀ p ∈ cs, PySem.W.CodeHd s₁.heap p.1 p.2)
    (hbm : ∃ (bm : Addr) (ob : Obj), mg "__builtins__" = some (.ref bm) ∧ bm ≠ builtinsNs ∧ s₁.heap.get? bm = some ob ∧
      ob.cls = .type "module" ∧ ob.dict = some builtinsNs ∧ ob.data = .plain)
    (ha : s₁.heap.get? a = some (so vs)) (hi : IntsAre vs ns) (hl : ns.length ≤ sizeLine) (hr : Room k callerA)
    (F : ∀ base : Heap, K.In base → base.Ns mainGlobals mg → (∀ p ∈ cs, GxR.TabB base mg p.1 p.2) → FnG P w K mg base CX k fa fd [x] sp)
    (hbind : ∀ (s : Shared) (u : Value), BindsTo s fd ⟨[u], []⟩ [(x, u)])
    (hsp : ∀ H : Hp, (∀ p ∈ cs, H p.2 = some (.tbl #[])) → SqL K H a (ns.map V.int) → sp [.ref a] H (fun v _ => v = .bl true) fun _ _ _ => False)
    (hCX : ∀ H e s', CX [] H s₁ (fun _ _ _ => False) e s' → False) :
    codeAny (model P w) callerA (.call (.ref fa) ⟨[.ref a], []⟩)
      (fun r s' => r = .ok (.ret (.bool true)) ∧ OldK s₁.heap s'.heap ∧ s'.os = s₁.os ∧ AllBare s'.gens) s₁ := by
  obtain ⟨T, eT⟩ : ∃ T, T = cs.map (·.2) := ⟨_, rfl⟩
  have inT : ∀ p ∈ cs, p.2 ∈ T := fun p hp => eT ▸ List.mem_map.mpr ⟨p, hp, rfl⟩
  have ofT : ∀ b ∈ T, s₁.heap.get? b = some tb0 ∧ K.lookup b = none := fun b hb => by
    rw [eT] at hb
    obtain ⟨p, hp, rfl⟩ := List.mem_map.mp hb
    exact ⟨hT p hp, nT p hp⟩
  have aT : a ∉ T := fun z => by
    have q := (ofT a z).1
    rw [ha] at q
    cases (congrArg Obj.data (Option.some.inj q) : Data.seq vs.toArray _ = Data.fields #[])
  have rv : Vals (ns.map V.int) vs := vals_ints hi
  obtain ⟨H, eH⟩ : ∃ H, H = atEntry K T a vs ns := ⟨_, rfl⟩
  have hTb : ∀ b ∈ T, H b = some (.tbl #[]) := fun b hb => by rw [eH]; exact if_pos hb
  have hAb : K.lookup a = none → H a = some (.frz (so vs) (.lst (ns.map V.int))) := fun z => by
    rw [eH]
    exact (if_neg aT).trans (if_pos ⟨rfl, z⟩)
  have hOt : ∀ b, b ∉ T → ¬(b = a ∧ K.lookup a = none) → H b = none := fun b h1 h2 => by
    rw [eH]
    exact (if_neg h1).trans (if_neg h2)
  have cases3 : ∀ b, (b ∈ T ∧ H b = some (.tbl #[])) ∨ ((b = a ∧ K.lookup a = none) ∧ H b = some (.frz (so vs) (.lst (ns.map V.int)))) ∨ (b ∉ T ∧ H b = none) := fun b => by
    by_cases h1 : b ∈ T
    · exact .inl ⟨h1, hTb b h1⟩
    · by_cases h2 : b = a ∧ K.lookup a = none
      · exact .inr (.inl ⟨h2, by rw [h2.1]; exact hAb h2.2⟩)
      · exact .inr (.inr ⟨h1, hOt b h1 h2⟩)
  have hok : HOk P w H s₁.heap := fun b u e => by
    rcases cases3 b with ⟨h1, h2⟩ | ⟨⟨rfl, h1⟩, h2⟩ | ⟨_, h2⟩
    · rw [h2] at e
      cases e
      exact (ofT b h1).1
    · rw [h2] at e
      cases e
      exact ⟨ha, by rw [List.length_map]; exact hl, vs, _, rv, ha⟩
    · rw [h2] at e
      cases e
  have hS : SqL K H a (ns.map V.int) := by
    cases hk : K.lookup a with
    | none => exact .inl (.inr ⟨so vs, hAb hk⟩)
    | some o =>
      have e := kx a o hk
      rw [ha] at e
      cases e
      exact .inr ⟨_, vs.toArray, _, hk, rfl, rfl, rfl, by rw [List.size_toArray, hi.length]; exact hl, by simpa using rv⟩
  -- what is neither a sequence nor an empty table is not tracked
  have plain : ∀ {b : Addr} {o : Obj}, s₁.heap.get? b = some o → (∀ us n, o.data ≠ .seq us n) → o.data ≠ .fields #[] → H b = none := fun {b o} e h1 h2 => by
    rcases cases3 b with ⟨q, _⟩ | ⟨⟨rfl, _⟩, _⟩ | ⟨_, q⟩
    · have q := (ofT b q).1
      rw [e] at q
      cases q
      exact (h2 rfl).elim
    · rw [ha] at e
      cases e
      exact (h1 _ _ rfl).elim
    · exact q
  have stay : ∀ {b : Addr} {o : Obj}, s₁.heap.get? b = some o → H b = none → (hidT s₁.heap H).get? b = some o := fun e n => hidT_get e n
  have nsB : ∀ {b : Addr} {m : Str → Option Value}, s₁.heap.Ns b m → (hidT s₁.heap H).Ns b m := fun {b m} ⟨o, es, ep, e, d, r⟩ =>
    ⟨o, es, ep, stay e (plain e (fun us n z => by rw [d] at z; cases z) fun z => by rw [d] at z; cases z), d, r⟩
  have kB : K.In (hidT s₁.heap H) := fun b o e => stay (kx b o e) (by
    rcases cases3 b with ⟨q, _⟩ | ⟨⟨rfl, q⟩, _⟩ | ⟨_, q⟩
    · rw [(ofT b q).2] at e
      cases e
    · rw [q] at e
      cases e
    · exact q)
  have mB : L2.Mod K mg (hidT s₁.heap H) := ⟨kB, nsB hns, ⟨mb, nsB hb, hbb⟩, let ⟨mc, h1, h2⟩ := hlim; ⟨mc, nsB h1, h2⟩⟩
  have notNs : ∀ b o, s₁.heap.get? b = some o → (∃ us, o.data = .fields us) ∨ o.data = .plain → mainGlobals ≠ b := fun b o e h z => by
    obtain ⟨o2, es, ep, e2, d, _⟩ := hns
    rw [z, e] at e2
    cases e2
    rcases h with ⟨us, h⟩ | h
    · rw [h] at d
      cases d
    · rw [h] at d
      cases d
  have tB : ∀ p ∈ cs, GxR.TabB (hidT s₁.heap H) mg p.1 p.2 := fun p hp => by
    have hp0 := hT p hp
    refine ⟨?_, ?_, notNs p.2 _ hp0 (.inl ⟨_, rfl⟩)⟩
    · obtain ⟨o, us, file, tf, flags, tg, inF, text, tt, e1, r1, r2, r3, rest⟩ := C p hp
      refine ⟨o, us, file, tf, flags, tg, inF, text, tt, stay e1 (plain e1 (fun vs n z => ?_) fun z => ?_), r1, r2, r3, rest⟩
      · rw [r2] at z
        cases z
      · rw [r2] at z
        cases z
        simp at r3
    · obtain ⟨bm, ob, b1, b2, b3, b4, b5, b6⟩ := hbm
      refine ⟨bm, ob, b1, b2, (notNs bm ob b3 (.inr b6)).symm, fun z => ?_, stay b3 (plain b3 (fun vs n z => ?_) fun z => ?_), b4, b5, b6⟩
      · rw [z, hp0] at b3
        cases b3
        cases b6
      · rw [b6] at z
        cases z
      · rw [b6] at z
        cases z
  have z0 : Env0 P w K mg (hidT s₁.heap H) callerA [] s₁ H :=
    ⟨rfl, mB, fun b o e => of_hidT e, Nat.le_of_eq (hidT_size _ _), trivial, (fun b hb => by cases hb), hok, .of_eq hg⟩
  refine codeAny_mono ((F _ kB (nsB hns) tB).go callerA [] s₁ H ⟨[.ref a], []⟩ [.ref a] [.ref a] _ _ rfl hr z0 (hbind s₁ (.ref a))
    (.cons rfl .nil) (hsp H (fun p hp => hTb p.2 (inT p hp)) hS)) fun r s' h => ?_
  cases r with
  | error e => exact (hCX H e s' h).elim
  | ok fl =>
    cases fl with
    | next => exact h.elim
    | brk => exact h.elim
    | cont => exact h.elim
    | ret u =>
      obtain ⟨v, H', os, bare, un, hok', r', q⟩ := h
      obtain rfl : v = .bl true := q
      obtain rfl : u = Value.bool true := r'
      have same : ∀ b o, b ∉ T → s₁.heap.get? b = some o → s'.heap.get? b = some o := fun b o nb e => by
        rcases cases3 b with ⟨q, _⟩ | ⟨_, q⟩ | ⟨_, q⟩
        · exact absurd q nb
        · obtain ⟨e1, _⟩ := hok b _ q
          obtain ⟨e2, _⟩ := hok' b _ (un.frzs b _ _ q)
          rw [e] at e1
          cases e1
          exact e2
        · exact un.keep b o e q (fun z => by cases z) (by simp)
      have grown : ∀ p ∈ cs, ∃ more : Array Value, s'.heap.get? p.2 = some { cls := .none, data := .fields more } := fun p hp => by
        obtain ⟨more, z⟩ := un.tbls p.2 #[] (hTb p.2 (inT p hp))
        exact ⟨_, hok' p.2 _ z⟩
      refine ⟨rfl, ⟨fun b o e => ?_, fun b o e => ?_⟩, os, bare⟩
      · by_cases hb : b ∈ T
        · rw [eT] at hb
          obtain ⟨p, hp, rfl⟩ := List.mem_map.mp hb
          obtain ⟨more, hm⟩ := grown p hp
          rw [hT p hp] at e
          cases e
          exact .inr (.inl ⟨((C p hp).tab (hT p hp)).isCodeTable, rfl, #[], more, rfl, by rw [Array.empty_append]; exact hm⟩)
        · exact .inl (same b o hb e)
      · by_cases hb : b ∈ T
        · rw [eT] at hb
          obtain ⟨p, hp, rfl⟩ := List.mem_map.mp hb
          obtain ⟨more, hm⟩ := grown p hp
          exact ⟨_, hm⟩
        · exact ⟨o, same b o hb e⟩
end

/-- the table of the top's def dn: its code object c, the table P -/
def TabsAt (q : Program) (K : PySem.W.Frag) (mg : Str → Option Value) (h : Heap) : Prop :=
  ∀ (dn : Str) (f c P : Addr) (o : Obj) (fd : FuncData) (e : Value) (dd : Option Addr) (us : Array Value) (sl : Array (Option Value)),
    ((recsOf q).any fun r => r.name == dn) = true → mg dn = some (.ref f) → K.lookup f = some o → o.data = .func fd → fd.code = .ref c →
    K.lookup c = some ⟨e, dd, .fields us, sl⟩ → us[11]? = some (.ref P) → h.get? P = some tb0 ∧ PySem.W.CodeHd h c P

/-- what is to be shown of the law's def at the head's heap h -/
def LawG (l : PySem.W.OpenLaw) (w : World) (K : PySem.W.Frag) (CX : CXT) (k n : Nat) (x : Str) (mg : Str → Option Value) (fa : Addr) (h : Heap) : Prop :=
  ∃ (fd : FuncData) (cs : List (Addr × Addr)) (sp : Sp), (∀ p ∈ cs, h.get? p.2 = some tb0) ∧ (∀ p ∈ cs, K.lookup p.2 = none) ∧
    (∀ p ∈ cs, PySem.W.CodeHd h p.1 p.2) ∧ (∀ (s : Shared) (u : Value), BindsTo s fd ⟨[u], []⟩ [(x, u)]) ∧
    (∀ (H : Hp) (a : Addr) (ns : List Int), ns.length ≤ n → (∀ z ∈ ns, Builtin.Int.intBits z ≤ 1048576) → (∀ p ∈ cs, H p.2 = some (.tbl #[])) →
      SqL K H a (ns.map V.int) → sp [.ref a] H (fun v _ => v = .bl true) fun _ _ _ => False) ∧
    ∀ base : Heap, K.In base → base.Ns mainGlobals mg → (∀ p ∈ cs, GxR.TabB base mg p.1 p.2) → FnG l.prog w K mg base CX k fa fd [x] sp

theorem walk_ofG {l : PySem.W.OpenLaw} {n k : Nat} {q : Program} {loose : List Str} {XP : (Str → Option Value) → Heap → Prop}
    {YP : World → Heap → Prop} {d : DefRec} {K : Params → PySem.W.Frag} {CX : World → CXT} {x : Str}
    (hn : l.most = some n) (hn2 : n ≤ sizeLine) (hdf : d.params.defaults = []) (hr : Room k callerA)
    (hY : ∀ (w : World) (h : Heap), YP w h → (K w.params).In h)
    (F : ∀ (w : World) (mg : Str → Option Value) (fa : Addr) (h : Heap), YP w h → (K w.params).In h → h.Ns mainGlobals mg →
      mg d.name = some (.ref fa) → TabsAt q (K w.params) mg h → LawG l w (K w.params) (CX w) k n x mg fa h)
    (hCX : ∀ (w : World) (H : Hp) (s : Shared) (e : Value) (s' : Shared), CX w [] H s (fun _ _ _ => False) e s' → False) :
    PySem.W.WalkO q loose XP YP l.row.toRowW d [] (fun f vs => PySem.call f vs) := by
  refine Att.attach_callB hn hdf fun w s₀ s₁ mg mb fa o pm cd doc a vs ns G Y ho hd hcd hmg hobj hints hlen hbits hg => ?_
  have kx := hY w _ Y
  have tabs : TabsAt q (K w.params) mg s₁.heap := fun dn f c P o fd e dd us sl h1 h2 h3 h4 h5 h6 h7 => by
    obtain ⟨r, hr1, hr2⟩ := List.any_eq_true.mp h1
    obtain rfl : r.name = dn := beq_iff_eq.mp hr2
    obtain ⟨a', o', fd', c', P', g1, g2, g3, g4, g5, g6⟩ := G.T.tab r hr1
    rw [h2] at g1
    cases g1
    have z1 := kx _ _ h3
    rw [z1] at g2
    cases g2
    rw [h4] at g3
    cases g3
    rw [h5] at g4
    cases g4
    have hd := PySem.W.CodeHd.of g5 g6
    obtain ⟨⟨oc, vc, e1, _, e3, e4⟩, hP⟩ := g6
    have z2 := kx _ _ h6
    rw [z2] at e1
    cases e1
    cases e3
    rw [h7] at e4
    cases e4
    exact ⟨hP, hd⟩
  obtain ⟨fd, cs, sp, hT, nT, C, hb, hsp, hF⟩ := F w mg fa _ Y kx G.T.g hmg tabs
  exact entry_call kx G.T.g G.T.b G.T.builtins G.T.nolimit hg hT nT C G.T.bmain hobj hints (Nat.le_trans hlen hn2) hr hF hb
    (fun H hH hS => hsp H a ns hlen hbits hH hS) fun H e s' => hCX w H s₁ e s'
end GD

set_option maxRecDepth 100000
set_option maxHeartbeats 4000000
namespace GD
open PySem PySem.Spec PyProof.Rows L2

/-- the element of a generator over the signs of a text, where it may call a def of the module: a test of the sign c -/
def EltD (X : Cx) (scope : Scope) (x : Str) (elt : Expr) (pb : Nat → Bool) : Prop :=
  ∀ (cenv : Env) (A' : Around) (E' : Value → Shared → Prop) (c : Nat) (t : Tok) (s₂ : Shared) (m₂ : Str → Option Value),
    cenv.scope = scope → cenv.globals = X.env.globals → A'.handled = none → A'.depth ≤ X.A.depth + 1 → A'.units ≤ X.A.units + 8 →
    (∀ b o, X.base.get? b = some o → s₂.heap.get? b = some o) → s₂.heap.Ns cenv.locals m₂ → m₂ x = some (.str ⟨#[c]⟩ t) →
    wpAny (model X.prog X.w) A' (eval elt cenv) (fun y s₃ => y = .bool (pb c) ∧ Keeps s₂ s₃) E' s₂

section
variable {X : Cx} {pins : List (Addr × Obj)} {σ : L2.St} {H : Hp} {s : Shared}
theorem gen_signs {c P : Addr} {elt iter : Expr} {x : Str} {px gpos : Pos} {scope : Scope} {pb : Nat → Bool} {te : TE} {k : Nat}
    {Q' : Value → Shared → Prop} {R : Str → Hp → Prop} (hr : Room k X.A) (TB : GxR.TabB X.base X.mg c P) (hcode : X.env.code = .ref c)
    (S : GxR.GenS X.env scope x) (hi : PE X iter te) (hel : L2.Mod X.K X.mg X.base → EltD X scope x elt pb) (hs : ∀ v, genFold iter X.env v = pure v) (I : Inv X pins σ H s)
    (h : te σ H fun v H1 => ∃ a : Str, v = .str a ∧ GxR.TabG H1 P ∧ R a H1)
    (hQ : ∀ a H1 g s5, R a H1 → GxR.Ready X pins σ H1 P a pb g s5 → Q' (.ref g) s5) :
    wpAny (model X.prog X.w) X.A (eval (.GeneratorExp elt [⟨.Name x px, iter, [], 0⟩] scope gpos) X.env) Q' X.xe s := by
  refine wpAny_GeneratorExp_walksQD hr.hd S.co (closure_ok S.free) S.cell S.dot S.loc S.kind (by have := hr.dp; omega) ?_ hs
  refine thn (hi.run pins s σ H _ I h) fun xv s1 hv => ?_
  obtain ⟨v, H1, I1, r1, a, rfl, ⟨ps, hP, ht⟩, q1⟩ := hv
  obtain ⟨t, rfl⟩ := _root_.id r1
  refine wpAny_pyIter_str fun o St W hst => ?_
  have hP1 : s1.heap.get? P = some { cls := .none, data := .fields ps } := I1.hok P _ hP
  have ltP : P < s1.heap.objs.size := Heap.lt_size hP1
  have up : ∀ b u, s1.heap.get? b = some u → (s1.heap.push o).get? b = some u := fun b u e => Heap.get?_push_of_some _ e
  have cd : PySem.W.CodeHd (s1.heap.push o) c P := TB.code.keeps fun b u e => up b u (I1.bk b u e)
  have nl2 : (s1.heap.push o).NoLimit := I1.nolimit.push o
  have sz2 : (s1.heap.push o).objs.size = s1.heap.objs.size + 1 := Heap.size_push ..
  have rest : ∀ (code : Value) (h3 : Heap) (tk : Nat) (qs : Array Value), Heap.ExtBut P (s1.heap.push o) h3 → (s1.heap.push o).objs.size ≤ h3.objs.size →
      h3.get? P = some { cls := .none, data := .fields qs } → (∃ more, qs = ps ++ more) → TriplesOk qs.toList →
      wpAny (model X.prog X.w) X.A (builtinsFor X.env.globals X.env.builtins) (fun bi s₄ =>
        ∃ Ia fp wr n₀ Pf St₀ pz F, Value.ref s1.heap.objs.size = .ref Ia ∧ (∀ A' : Around, A'.handled = none → Walks X.prog X.w A' Ia fp wr n₀ Pf St₀) ∧
          St₀ 0 s₄.heap ∧ (∀ b ∈ fp, b < s₄.heap.objs.size) ∧ s₄.heap.NoLimit ∧ cStatics ∉ wr ∧
          (∀ href : Heap, (∀ b o, s₄.heap.get? b = some o → href.get? b = some o) →
            QuietGenD X.prog X.w (genEnv scope (cloFrom X.env.cells scope.names []) s₄.heap.objs.size code bi X.env) x [] elt
              (List.range s₄.heap.objs.size) wr Pf pz F href (X.A.depth + 1) (X.A.units + 8)) ∧
          (∀ a h₅ tk gs, gs.bare = true → s₄.heap.objs.size < a → h₅.objs.size = a + 1 → (∀ b o, s₄.heap.get? b = some o → h₅.get? b = some o) →
            WalksS X.prog X.w X.A.in4 a (a :: s₄.heap.objs.size :: List.range s₄.heap.objs.size) (s₄.heap.objs.size :: wr) (GenOnlyQ s₄.gens.size)
              (passing pz n₀ 0).length (fun j y => ∃ i, (passing pz n₀ 0)[j]? = some i ∧ F i y)
              (GenAt X.prog X.w X.A.in4 a s₄.gens.size s₄.heap.objs.size (List.range s₄.heap.objs.size) wr pz n₀ F) →
            GenAt X.prog X.w X.A.in4 a s₄.gens.size s₄.heap.objs.size (List.range s₄.heap.objs.size) wr pz n₀ F 0 { s₄ with gens := s₄.gens.push gs, toks := tk, heap := h₅ } →
            Q' (.ref a) { s₄ with gens := s₄.gens.push gs, toks := tk, heap := h₅ })) X.xe { s1 with heap := h3, toks := tk } := by
    intro code h3 tk qs hx hsz hP3 hmore ht3
    obtain ⟨bm, ob, e1, e2, e3, e4, e5, e6, e7, e8⟩ := TB.bm
    have hcl : cStatics < s1.heap.objs.size := let ⟨_, hns, _⟩ := I1.nolimit; hns.lt
    have hcP : cStatics ≠ P := fun e => by
      obtain ⟨_, ⟨o', es, ep, ho, hd, _⟩, _⟩ := I1.nolimit
      rw [e, hP1] at ho
      cases ho
      cases hd
    have k3 : ∀ b u, b ≠ P → s1.heap.get? b = some u → h3.get? b = some u := fun b u hb e => hx b u hb (up b u e)
    have kbase : ∀ b u, X.base.get? b = some u → h3.get? b = some u := fun b u e => k3 b u (fun z => by
      have q := (I1.bs b u e).2
      rw [z, hP] at q
      cases q) (I1.bk b u e)
    refine wpAny_builtinsFor (m := X.mg) (by rw [I1.ok.glob]; exact ((I1.mod.glob.keeps I1.bk).push o).extBut hx TB.gP) e1 e2 (k3 _ _ e4 (I1.bk _ _ e5)) e6 e7 e8 ?_
    refine ⟨s1.heap.objs.size, [s1.heap.objs.size], [s1.heap.objs.size], a.cps.size, SignAt a, St, (fun _ => true), (fun i y => ∃ cc, a.cps[i]? = some cc ∧ y = .bool (pb cc)), rfl, W, ?_, ?_, nl2.extBut hx hcP, ?_, ?_, ?_⟩
    · refine (W X.A hr.hd).frame _ _ _ hst fun b hb u e => hx b u (fun z => ?_) e
      obtain rfl : b = s1.heap.objs.size := by simpa using hb
      exact Nat.ne_of_lt ltP z.symm
    · intro b hb
      obtain rfl : b = s1.heap.objs.size := by simpa using hb
      show s1.heap.objs.size < h3.objs.size
      omega
    · intro z
      obtain z : cStatics = s1.heap.objs.size := by simpa using z
      exact Nat.ne_of_lt hcl z
    · intro href hhref
      refine ⟨fun A' E' i v s₂ m₂ hA hD hU hPv hn hm hk => ?_, fun A' E' i v s₂ m₂ hA hD hU hPv hp hn hm hk => ?_⟩
      · simp only [List.forIn_nil]
        exact wpAny_pure ⟨rfl, GxR.keeps_refl _⟩
      · obtain ⟨cc, u, hcc, rfl⟩ := hPv
        have kb : ∀ b o, X.base.get? b = some o → s₂.heap.get? b = some o := fun b o e =>
          hk b (List.mem_range.mpr (Heap.lt_size (kbase b o e))) (fun z => by
            obtain z : b = s1.heap.objs.size := by simpa using z
            exact Nat.ne_of_lt (Heap.lt_size (I1.bk b o e)) z) o (hhref b o (kbase b o e))
        exact wpAny_mono (hel I1.ok.mod _ A' E' cc u s₂ m₂ rfl rfl hA hD hU kb hn hm) (fun y s3 r => ⟨⟨cc, hcc, r.1⟩, r.2⟩) fun _ _ e => e
    · intro g h5 tk5 gs hgb hag hsz5 hk5 W5 hat
      simp only [GxR.passing_true, List.length_range] at W5
      refine hQ a H1 g _ q1 ⟨_, _, _, _, _, W5.in4_1, hat, fun j y sj Qj Ej hy hQj => ?_, fun s' hm => ?_⟩
      · obtain ⟨i, hij, cc, hcc, rfl⟩ := hy
        obtain ⟨hj, ej⟩ := List.getElem?_eq_some_iff.mp hij
        rw [List.getElem_range] at ej
        subst ej
        have e9 : a.cps.toList[j]? = some cc := by
          rw [Array.getElem?_toList]
          exact hcc
        have q2 : Qj (GxR.trF pb a.cps.toList j) sj := hQj
        rw [GxR.trF_some e9] at q2
        exact wpAny_truthy_bool q2
      · obtain ⟨more, em⟩ := hmore
        have nwr : ∀ b u, s1.heap.get? b = some u → b ∉ h3.objs.size :: [s1.heap.objs.size] := fun b u e hb => by
          have hl := Heap.lt_size e
          rcases List.mem_cons.mp hb with z | z
          · rw [z] at hl
            have h9 : (h3.objs.size : Nat) < s1.heap.objs.size := hl
            omega
          · obtain z : b = s1.heap.objs.size := by simpa using z
            exact Nat.ne_of_lt hl z
        have J := GxR.inv_tab (more := more) (h' := s'.heap) (g' := s'.gens) (d' := s'.drawn) (t' := s'.toks) I1 hP (fun b u hb e => hm.heap b u (nwr b u e) (hk5 b u (k3 b u hb e)))
          (by rw [← em]; exact hm.heap P _ (nwr P _ hP1) (hk5 P _ hP3)) (AllBare.movedS (I1.bare.push hgb) hm)
        rw [GxR.sh_eta s1 s' hm.os] at J
        exact ⟨upd H1 P (.tbl (ps ++ more)), ⟨⟨ps ++ more, upd_same, by rw [← em]; exact ht3⟩, fun b hb => upd_ne hb⟩, J⟩
  refine ⟨nl2, ?_⟩
  have hP2 := up P _ hP1
  cases hf : codeAmong gpos ps.toList with
  | none =>
    refine wpAny_genexprCodeX hcode (cd.code hP2 ht) (cd.tab hP2) hf fun c' h' tk hx hge hlt hco' _ htab' _ => ?_
    obtain ⟨o1, vs, f1, tf, fl, tg, inF, tx, tt, op, _, _, _, _, _, _, _, _, _, htr, _⟩ := hco'
    exact rest _ h' tk _ hx (Nat.le_trans hge (Nat.le_of_lt hlt)) htab'.2 ⟨_, rfl⟩ htr
  | some cv =>
    refine wpAny_genexprCode_hit hcode (cd.code hP2 ht) hf ?_
    exact rest cv (s1.heap.push o) s1.toks ps (Heap.ExtBut.refl _ _) (Nat.le_refl _) hP2 ⟨#[], by simp⟩ ht

/-- all(test for x in e) -/
theorem pe_allD {c P : Addr} {elt iter : Expr} {x : Str} {px p pos gpos : Pos} {scope : Scope} {pb : Nat → Bool} {te : TE} {k : Nat}
    (hr : Room k X.A) (hg : Gl X "all") (hm : X.mg "all" = none) (TB : GxR.TabB X.base X.mg c P) (hcode : X.env.code = .ref c) (S : GxR.GenS X.env scope x)
    (hi : PE X iter te) (hel : L2.Mod X.K X.mg X.base → EltD X scope x elt pb) (hs : ∀ v, genFold iter X.env v = pure v)
    (he : starEach [.GeneratorExp elt [⟨.Name x px, iter, [], 0⟩] scope gpos] X.env = (false, eval (.GeneratorExp elt [⟨.Name x px, iter, [], 0⟩] scope gpos) X.env) :: starEach [] X.env := by rfl) :
    PE X (.Call (.Name "all" p) [.GeneratorExp elt [⟨.Name x px, iter, [], 0⟩] scope gpos] [] pos) (GxR.tAllS P pb te) := by
  refine ⟨fun pins s σ H Q I h => wpAny_Call_Name_kw (ld_blt I hg hm (by decide +kernel : bootBuiltins "all" = some (.builtin "all")) ?_)⟩
  refine PyProof.Rows.callWith_builtin1 ?_ he (by rfl)
  rw [he]
  show wpAny _ _ (spliced ((false, _) :: backTo pos (starEach [] X.env))) _ _ s
  refine Calls.spliced_cons (gen_signs (R := fun a H1 => ∀ H2, GxR.Tabbed P H1 H2 → Q (.bl (a.cps.toList.all pb)) H2) hr TB hcode S hi hel hs I h fun a H1 g s5 hR hG => ?_)
  obtain ⟨fp, wr, G, F, St, W, hst, htr, hI⟩ := hG
  refine Calls.spliced_nil (call_all_walkS (W.self 0 _ _ _ hst ⟨g, fp, wr, G, _, F, St, _, rfl, W, hst, htr, fun s' hmv => ?_⟩))
  obtain ⟨H2, hT, J⟩ := hI s' hmv
  refine ⟨.bl _, H2, J, rfl, ?_⟩
  rw [GxR.all_signs a pb]
  exact hR H2 hT

/-- an element that calls nothing: x in N, N a text of the module -/
theorem elt_inSigns {scope : Scope} {x n : Str} {z : Str} {tz : Tok} {p1 p2 p3 : Pos} (hgl : X.env.globals = mainGlobals) (hmod : L2.Mod X.K X.mg X.base) (hk : scope.kind = .function)
    (hl : scope.names.lookup x = some .local) (hn : scope.names.lookup n = some .globalImplicit) (hm : X.mg n = some (.str z tz))
    (hd : (x == ("__debug__" : Str)) = false := by decide) (hd2 : (n == ("__debug__" : Str)) = false := by decide) :
    EltD X scope x (.Compare (.Name x p1) [.In] [.Name n p2] p3) (fun c => decide (c ∈ z.cps.toList)) := by
  intro cenv A' E' c t s₂ m₂ hs hg hA hD hU hb hns hx
  refine wpAny_Compare1 ?_
  refine wpAny_Name (wpAny_loadName_local (by rw [hs]; exact hk) (show cenv.scope.names.lookup x = some .local by rw [hs]; exact hl) hns hx ?_) hd
  refine Calls.Name_function_global (by rw [hs]; exact hk) (show cenv.scope.names.lookup n = some .globalImplicit by rw [hs]; exact hn) (Calls.loadGlobal_global (by rw [hg, hgl]; exact hmod.glob.keeps hb) hm ?_) hd2
  refine in_str ⟨?_, GxR.keeps_refl _⟩
  rw [PySem.StrLaws.found_one z c]
end
end GD

set_option maxRecDepth 100000
set_option maxHeartbeats 4000000
/-! the mathematics of law k01: lists of codes, no Python -/
namespace K1
open PySem

def S (l : List Nat) : Str := ⟨l.toArray⟩
theorem S_toList (l : List Nat) : (S l).cps.toList = l := rfl
theorem S_len (l : List Nat) : (S l).length = l.length := by show l.toArray.size = _; simp
theorem S_of (z : Str) : S z.cps.toList = z := by cases z; rfl
theorem S_app (a b : List Nat) : S a ++ S b = S (a ++ b) := by
  show (⟨a.toArray ++ b.toArray⟩ : Str) = ⟨(a ++ b).toArray⟩
  rw [List.append_toArray]
theorem S_inj {a b : List Nat} (h : S a = S b) : a = b := congrArg (fun z : Str => z.cps.toList) h

/-! ### finding a sign -/
section
open Builtin Builtin.Str StrLaws
theorem occ_stop (s sub : Str) (hi : Nat) : ∀ (l : List Nat) (st : Array Nat × Nat), st.fst.size = 1 → (forIn l st (occBody s sub hi 1)).run.fst = st.fst
  | [], st, h => rfl
  | a :: l, st, h => by
    rw [List.forIn_cons]
    unfold occBody
    rw [if_neg (fun z => by have := z.1.1.1; omega)]
    exact occ_stop s sub hi l st h
theorem occ_first (x : Str) (c : Nat) : ∀ (m cur free : Nat), free ≤ cur →
    ((∀ k, cur ≤ k → k < cur + m → x.cps.toList[k]? ≠ some c) ∧ (forIn (List.range' cur m) ((#[] : Array Nat), free) (occBody x ⟨#[c]⟩ x.length 1)).run.fst = #[]) ∨
    ∃ k, cur ≤ k ∧ k < cur + m ∧ x.cps.toList[k]? = some c ∧ (∀ j, cur ≤ j → j < k → x.cps.toList[j]? ≠ some c) ∧ (forIn (List.range' cur m) ((#[] : Array Nat), free) (occBody x ⟨#[c]⟩ x.length 1)).run.fst = #[k]
  | 0, cur, free, h => .inl ⟨fun k h1 h2 => by omega, rfl⟩
  | m + 1, cur, free, h => by
    rw [List.range'_succ, List.forIn_cons]
    unfold occBody
    by_cases hc : x.cps.toList[cur]? = some c
    · have q := (subAt_one x c cur).mpr hc
      rw [if_pos ⟨⟨⟨by simp, h⟩, q.1⟩, q.2⟩]
      refine .inr ⟨cur, Nat.le_refl _, by omega, hc, fun j h1 h2 => by omega, ?_⟩
      exact occ_stop x _ _ _ _ rfl
    · rw [if_neg (fun z => hc ((subAt_one x c cur).mp ⟨z.1.2, z.2⟩))]
      rcases occ_first x c m (cur + 1) free (by omega) with ⟨h1, h2⟩ | ⟨k, h1, h2, h3, h4, h5⟩
      · refine .inl ⟨fun k k1 k2 => ?_, h2⟩
        by_cases e : k = cur
        · rw [e]; exact hc
        · exact h1 k (by omega) (by omega)
      · refine .inr ⟨k, by omega, by omega, h3, fun j j1 j2 => ?_, h5⟩
        by_cases e : j = cur
        · rw [e]; exact hc
        · exact h4 j (by omega) j2
/-- s.find(c, i): the first place from i on -/
theorem find_one (x : Str) (c i : Nat) (hi : i ≤ x.length) :
    (Txt.find3 x ⟨#[c]⟩ (i : Nat) = -1 ∧ c ∉ x.cps.toList.drop i) ∨
    ∃ k : Nat, Txt.find3 x ⟨#[c]⟩ (i : Nat) = ((i + k : Nat) : Int) ∧ (x.cps.toList.drop i)[k]? = some c ∧ c ∉ (x.cps.toList.drop i).take k := by
  have e : fromIndex x.length (i : Nat) = i := by
    show (max (0 : Int) (if ((i : Nat) : Int) < 0 then _ else ((i : Nat) : Int))).toNat = i
    rw [if_neg (by omega)]
    omega
  unfold Txt.find3
  rw [e, occ_eq]
  have xl : x.length = x.cps.toList.length := by show x.cps.size = _; simp
  rcases occ_first x c (x.length + 1 - i) i i (Nat.le_refl _) with ⟨h1, h2⟩ | ⟨k, h1, h2, h3, h4, h5⟩
  · left
    rw [h2]
    refine ⟨rfl, fun hm => ?_⟩
    obtain ⟨j, hj⟩ := List.getElem?_of_mem hm
    rw [List.getElem?_drop] at hj
    have := (List.getElem?_eq_some_iff.mp hj).1
    exact h1 (i + j) (by omega) (by omega) hj
  · right
    rw [h5]
    refine ⟨k - i, ?_, ?_, fun hm => ?_⟩
    · show ((k : Nat) : Int) = _
      omega
    · rw [List.getElem?_drop, show i + (k - i) = k by omega]
      exact h3
    · obtain ⟨j, hj⟩ := List.getElem?_of_mem hm
      have hlt : j < k - i := by
        have := (List.getElem?_eq_some_iff.mp hj).1
        rw [List.length_take] at this
        omega
      rw [List.getElem?_take_of_lt hlt, List.getElem?_drop] at hj
      exact h4 (i + j) (by omega) (by omega) hj
end

/-! ### tokens -/
def LET : List Nat := ("abcdefghijklmnopqrstuvwxyz" : Str).cps.toList
def DIG : List Nat := ("0123456789" : Str).cps.toList
def SGN : List Nat := ("(),;+-*<=" : Str).cps.toList
def mayB (c : Nat) : Bool := decide (32 ≤ c ∧ c ≤ 126 ∧ c ≠ 37 ∧ c ≠ 34 ∧ c ≠ 124)
/-- how many of cs stand at the beginning -/
def run (cs l : List Nat) : Nat := (l.takeWhile fun c => decide (c ∈ cs)).length
def val (ds : List Nat) : Nat := ds.foldl (fun acc c => acc * 10 + (c - 48)) 0
inductive Tok where
  | word (l : List Nat) | num (n : Nat) | str (l : List Nat) | sign (c : Nat)
/-- the text of a number -/
def numT (n : Nat) : List Nat := (Str.ofString (toString (n : Int))).cps.toList
/-- how far the next quote is -/
def toQ (r : List Nat) : Nat := (r.takeWhile fun d => d != 34).length
/-- the token at the beginning, and how many signs it has -/
def lexC (c : Nat) (r : List Nat) : Option (Tok × Nat) :=
    if c ∈ LET then (if run LET (c :: r) ≤ 6 then some (.word ((c :: r).take (run LET (c :: r))), run LET (c :: r)) else none)
    else if c ∈ DIG then
      (if run DIG (c :: r) ≤ 5 ∧ (c :: r).take (run DIG (c :: r)) = numT (val ((c :: r).take (run DIG (c :: r)))) then
        some (.num (val ((c :: r).take (run DIG (c :: r)))), run DIG (c :: r)) else none)
    else if c = 34 then
      (if toQ r < r.length ∧ toQ r ≤ 20 ∧ (r.take (toQ r)).all mayB = true then some (.str (r.take (toQ r)), toQ r + 2) else none)
    else if c ∈ SGN then some (.sign c, 1) else none
/-- how a line is split -/
inductive Lex : List Nat → Option (List Tok) → Prop
  | nil : Lex [] (some [])
  | sp {r o} : Lex r o → Lex (32 :: r) o
  | bad {c r} : c ≠ 32 → lexC c r = none → Lex (c :: r) none
  | tok {c r t k o} : c ≠ 32 → lexC c r = some (t, k) → Lex ((c :: r).drop k) o → Lex (c :: r) (o.map (t :: ·))

theorem run_le (cs l : List Nat) : run cs l ≤ l.length := (List.takeWhile_sublist _).length_le
theorem run_pos {cs : List Nat} {c : Nat} {r : List Nat} (h : c ∈ cs) : 1 ≤ run cs (c :: r) := by
  unfold run
  rw [List.takeWhile_cons, if_pos (decide_eq_true h)]
  simp
theorem lexC_pos {c : Nat} {r : List Nat} {t : Tok} {k : Nat} (h : lexC c r = some (t, k)) : 1 ≤ k := by
  unfold lexC at h
  by_cases h1 : c ∈ LET
  · rw [if_pos h1] at h
    split at h
    · cases h
      exact run_pos h1
    · cases h
  rw [if_neg h1] at h
  by_cases h2 : c ∈ DIG
  · rw [if_pos h2] at h
    split at h
    · cases h
      exact run_pos h2
    · cases h
  rw [if_neg h2] at h
  by_cases h3 : c = 34
  · rw [if_pos h3] at h
    split at h
    · cases h
      omega
    · cases h
  rw [if_neg h3] at h
  split at h
  · cases h
    exact Nat.le_refl _
  · cases h
/-- every line is split in some way -/
theorem lex_all : ∀ (n : Nat) (l : List Nat), l.length ≤ n → ∃ o, Lex l o
  | _, [], _ => ⟨_, .nil⟩
  | 0, _ :: _, h => by simp at h
  | n + 1, c :: r, h => by
    have hr : r.length ≤ n := by simpa using h
    by_cases hc : c = 32
    · obtain ⟨o, ho⟩ := lex_all n r hr
      subst hc
      exact ⟨o, .sp ho⟩
    · cases e : lexC c r with
      | none => exact ⟨none, .bad hc e⟩
      | some tk =>
        obtain ⟨t, k⟩ := tk
        have hk := lexC_pos e
        obtain ⟨o, ho⟩ := lex_all n ((c :: r).drop k) (by rw [List.length_drop, List.length_cons]; omega)
        exact ⟨_, .tok hc e ho⟩
/-! ### quotes come in twos -/
def q34 (l : List Nat) : Nat := l.count 34
theorem q34_none {l : List Nat} (h : 34 ∉ l) : q34 l = 0 := List.count_eq_zero.mpr h
theorem q34_app (a b : List Nat) : q34 (a ++ b) = q34 a + q34 b := List.count_append
theorem run_take (cs l : List Nat) : l.take (run cs l) = l.takeWhile fun c => decide (c ∈ cs) := by
  unfold run
  exact (List.prefix_iff_eq_take.mp (List.takeWhile_prefix _)).symm
theorem mem_tw {p : Nat → Bool} {x : Nat} : ∀ {l : List Nat}, x ∈ l.takeWhile p → p x = true
  | [], h => by cases h
  | a :: l, h => by
    rw [List.takeWhile_cons] at h
    split at h
    · rename_i ha
      rcases List.mem_cons.mp h with rfl | h
      · exact ha
      · exact mem_tw h
    · cases h
theorem mem_run {cs l : List Nat} {c : Nat} (h : c ∈ l.take (run cs l)) : c ∈ cs := by
  rw [run_take] at h
  exact of_decide_eq_true (mem_tw h)
theorem at_tw {p : Nat → Bool} : ∀ {l : List Nat}, (l.takeWhile p).length < l.length → ∃ x, l[(l.takeWhile p).length]? = some x ∧ p x = false
  | [], h => by cases h
  | a :: l, h => by
    rw [List.takeWhile_cons] at h ⊢
    cases ha : p a with
    | true =>
      rw [ha] at h
      simp only [if_true, List.length_cons] at h ⊢
      obtain ⟨x, h1, h2⟩ := at_tw (p := p) (l := l) (by omega)
      exact ⟨x, by simpa using h1, h2⟩
    | false => exact ⟨a, by simp, ha⟩
theorem take_tw {p : Nat → Bool} (l : List Nat) : l.take (l.takeWhile p).length = l.takeWhile p := (List.prefix_iff_eq_take.mp (List.takeWhile_prefix _)).symm
theorem lexC_even {c : Nat} {r : List Nat} {t : Tok} {k : Nat} (h : lexC c r = some (t, k)) : q34 ((c :: r).take k) % 2 = 0 := by
  unfold lexC at h
  by_cases h1 : c ∈ LET
  · rw [if_pos h1] at h
    split at h
    · cases h
      rw [q34_none (fun z => absurd (mem_run z) (by decide))]
    · cases h
  rw [if_neg h1] at h
  by_cases h2 : c ∈ DIG
  · rw [if_pos h2] at h
    split at h
    · cases h
      rw [q34_none (fun z => absurd (mem_run z) (by decide))]
    · cases h
  rw [if_neg h2] at h
  by_cases h3 : c = 34
  · rw [if_pos h3] at h
    split at h
    · rename_i hk
      cases h
      subst h3
      have n1 : 34 ∉ r.take (toQ r) := fun z => by
        unfold toQ at z
        rw [take_tw] at z
        have := mem_tw z
        simp at this
      obtain ⟨x, hx, hp⟩ := at_tw (p := fun d => d != 34) (l := r) hk.1
      have hx' : x = 34 := by simpa using hp
      subst hx'
      have hx : r[toQ r]? = some 34 := hx
      rw [List.take_succ_cons, List.take_add_one, hx]
      show q34 ([34] ++ (r.take _ ++ [34])) % 2 = 0
      rw [q34_app, q34_app, q34_none n1]
      rfl
    · cases h
  rw [if_neg h3] at h
  split at h
  · cases h
    show q34 [c] % 2 = 0
    rw [q34_none (fun z => h3 (List.mem_singleton.mp z).symm)]
  · cases h
theorem lex_even {l : List Nat} {o : Option (List Tok)} (h : Lex l o) : o ≠ none → q34 l % 2 = 0 := by
  induction h with
  | nil => exact fun _ => rfl
  | sp _ ih =>
    intro h
    show q34 ([32] ++ _) % 2 = 0
    rw [q34_app]
    have := ih h
    have e : q34 [32] = 0 := rfl
    omega
  | bad _ _ => exact fun h => absurd rfl h
  | @tok c r t k o _ e _ ih =>
    intro h
    have h1 := lexC_even e
    have h2 := ih (fun z => h (by rw [z]; rfl))
    have e := q34_app ((c :: r).take k) ((c :: r).drop k)
    rw [List.take_append_drop] at e
    omega

/-! ### texts that are joined -/
/-- a token of the law's menu, spelled -/
def spell : Tok → List Nat
  | .word l => l
  | .num n => numT n
  | .str l => [34] ++ l ++ [34]
  | .sign c => [c]
/-- a token that is well made -/
def good : Tok → Prop
  | .word l => l ≠ [] ∧ l.length ≤ 6 ∧ ∀ c ∈ l, c ∈ LET
  | .num n => n ≤ 99999
  | .str l => l.length ≤ 20 ∧ ∀ c ∈ l, mayB c = true
  | .sign c => c ∈ SGN
/-- what may follow a token -/
def apart : Tok → List Nat → Prop
  | .word _, l => ∀ c r, l = c :: r → c ∉ LET
  | .num _, l => ∀ c r, l = c :: r → c ∉ DIG
  | _, _ => True
theorem run_all {cs a b : List Nat} (ha : ∀ c ∈ a, c ∈ cs) (hb : ∀ c r, b = c :: r → c ∉ cs) : run cs (a ++ b) = a.length := by
  unfold run
  rw [List.takeWhile_append_of_pos (fun c hc => decide_eq_true (ha c hc)), List.length_append]
  cases b with
  | nil => simp
  | cons c r => rw [List.takeWhile_cons, if_neg (by simpa using hb c r rfl)]; simp
theorem digits_len : ∀ (k m : Nat), m < 10 ^ (k + 1) → (Nat.toDigits 10 m).length ≤ k + 1
  | k, m, h => by
    by_cases hm : m < 10
    · rw [Nat.toDigits_of_lt_base hm]
      exact Nat.le_add_left _ _
    · cases k with
      | zero => exact absurd h hm
      | succ k =>
        have lt : m % 10 < 10 := Nat.mod_lt m (by decide)
        have t : Nat.toDigits 10 (m / 10) ++ Nat.toDigits 10 (m % 10) = Nat.toDigits 10 (10 * (m / 10) + m % 10) := Nat.toDigits_append_toDigits (by decide) (by omega) lt
        rw [Nat.div_add_mod] at t
        rw [← t, List.length_append, Nat.toDigits_of_lt_base lt]
        have := digits_len k (m / 10) (by rw [Nat.pow_succ] at h; omega)
        show (Nat.toDigits 10 (m / 10)).length + 1 ≤ k + 1 + 1
        omega
theorem numT_eq (n : Nat) : numT n = (Nat.toDigits 10 n).map Char.toNat := PySem.W.KIN.signs_num n
theorem numT_dig {n : Nat} (h : n ≤ 99999) : numT n ≠ [] ∧ (numT n).length ≤ 5 ∧ (∀ c ∈ numT n, c ∈ DIG) ∧ val (numT n) = n := by
  rw [numT_eq]
  refine ⟨fun e => ?_, ?_, fun c hc => ?_, PySem.W.KIN.val_back n⟩
  · have := PySem.W.KIN.val_back n
    have q := List.map_eq_nil_iff.mp e
    have l := toDigits_len_ge 10 n
    rw [q] at l
    exact absurd l (by decide)
  · rw [List.length_map]
    exact digits_len 4 n (by omega)
  · obtain ⟨ch, hch, e⟩ := List.mem_map.mp hc
    have r := PyProof.Rows.digit_range (Nat.isDigit_of_mem_toDigits (by decide) (by decide) hch)
    have hD : ∀ d, 48 ≤ d → d ≤ 57 → d ∈ DIG := by
      intro d h1 h2
      have : ∀ k, k < 10 → 48 + k ∈ DIG := by decide
      have q := this (d - 48) (by omega)
      rw [show 48 + (d - 48) = d by omega] at q
      exact q
    rw [← e]
    exact hD _ r.1 r.2
theorem let_dig {c : Nat} (h : c ∈ DIG) : c ∉ LET := fun z => by
  have : ∀ c ∈ DIG, c ∉ LET := by decide
  exact this c h z
theorem take_all {a b : List Nat} : (a ++ b).take a.length = a := List.take_left' rfl
theorem lex_spell {t : Tok} {b : List Nat} (g : good t) (ap : apart t b) : ∃ c r, spell t ++ b = c :: r ∧ c ≠ 32 ∧ lexC c r = some (t, (spell t).length) := by
  cases t with
  | word l =>
    obtain ⟨h1, h2, h3⟩ := g
    cases l with
    | nil => exact absurd rfl h1
    | cons c r =>
      have hc : c ∈ LET := h3 c List.mem_cons_self
      refine ⟨c, r ++ b, rfl, fun z => absurd hc (by rw [z]; decide), ?_⟩
      unfold lexC
      have e : run LET (c :: (r ++ b)) = (c :: r).length := run_all (a := c :: r) h3 ap
      rw [if_pos hc, e, if_pos h2]
      show some (Tok.word (((c :: r) ++ b).take (c :: r).length), _) = _
      rw [take_all]
      rfl
  | num n =>
    obtain ⟨h1, h2, h3, h4⟩ := numT_dig (show n ≤ 99999 from g)
    show ∃ c r, numT n ++ b = c :: r ∧ c ≠ 32 ∧ lexC c r = some (Tok.num n, (numT n).length)
    obtain ⟨l, hl⟩ : ∃ l, l = numT n := ⟨_, rfl⟩
    rw [← hl] at h1 h2 h3 h4 ⊢
    cases l with
    | nil => exact absurd rfl h1
    | cons c r =>
      have hc : c ∈ DIG := h3 c List.mem_cons_self
      refine ⟨c, r ++ b, rfl, fun z => absurd hc (by rw [z]; decide), ?_⟩
      unfold lexC
      have e : run DIG (c :: (r ++ b)) = (c :: r).length := run_all (a := c :: r) h3 ap
      have e2 : (c :: (r ++ b)).take (c :: r).length = c :: r := take_all (a := c :: r) (b := b)
      rw [if_neg (let_dig hc), if_pos hc, e, e2, h4, if_pos ⟨h2, hl⟩]
  | str l =>
    obtain ⟨h1, h2⟩ := g
    refine ⟨34, l ++ [34] ++ b, rfl, by decide, ?_⟩
    unfold lexC
    have n34 : ∀ c ∈ l, (c != 34) = true := fun c hc => by
      have := h2 c hc
      unfold mayB at this
      have := of_decide_eq_true this
      simp [this.2.2.2.1]
    have e : toQ (l ++ [34] ++ b) = l.length := by
      unfold toQ
      rw [List.append_assoc, List.takeWhile_append_of_pos n34, List.length_append]
      show l.length + (List.takeWhile _ (34 :: b)).length = _
      rw [List.takeWhile_cons, if_neg (by decide)]
      rfl
    have e2 : (l ++ [34] ++ b).take l.length = l := by rw [List.append_assoc]; exact take_all
    rw [if_neg (by decide), if_neg (by decide), if_pos rfl, e, e2, if_pos ⟨by simp, h1, List.all_eq_true.mpr h2⟩]
    show some (Tok.str l, l.length + 2) = some (Tok.str l, ([34] ++ l ++ [34]).length)
    simp
  | sign c =>
    have hs : c ∈ SGN := g
    have hd : ∀ c ∈ SGN, c ∉ LET ∧ c ∉ DIG ∧ c ≠ 34 ∧ c ≠ 32 := by decide
    obtain ⟨h1, h2, h3, h4⟩ := hd c hs
    refine ⟨c, b, rfl, h4, ?_⟩
    unfold lexC
    rw [if_neg h1, if_neg h2, if_neg h3, if_pos hs]
    rfl

/-- tokens with gaps of blanks behind them -/
def joined : List (Tok × Nat) → List Nat
  | [] => []
  | (t, g) :: r => spell t ++ List.replicate g 32 ++ joined r
/-- where a gap must stand -/
def gapped : List (Tok × Nat) → Prop
  | (t, g) :: (u, h) :: r => (g = 0 → apart t (spell u ++ (List.replicate h 32 ++ joined r))) ∧ gapped ((u, h) :: r)
  | _ => True
theorem lex_blanks {l : List Nat} {o : Option (List Tok)} (h : Lex l o) : ∀ g, Lex (List.replicate g 32 ++ l) o
  | 0 => h
  | g + 1 => by
    rw [List.replicate_succ]
    exact .sp (lex_blanks h g)
/-- a joined text is split into its tokens, and what stands behind is split as it is -/
theorem lex_joined {tail : List Nat} {o : Option (List Tok)} (ht : Lex tail o) (hs : ∀ c r, tail = c :: r → c = 32) :
    ∀ (l : List (Tok × Nat)), (∀ p ∈ l, good p.1) → gapped l → Lex (joined l ++ tail) (o.map (l.map (·.1) ++ ·))
  | [], _, _ => by
    have e : (o.map (([] : List (Tok × Nat)).map (·.1) ++ ·)) = o := by cases o <;> rfl
    rw [e]
    exact ht
  | (t, g) :: r, hg, hp => by
    have hr : Lex (joined r ++ tail) (o.map (r.map (·.1) ++ ·)) := lex_joined ht hs r (fun p h => hg p (List.mem_cons_of_mem _ h)) (by cases r with | nil => trivial | cons a b => exact hp.2)
    have ap : apart t (List.replicate g 32 ++ (joined r ++ tail)) := by
      have sp : ∀ l : List Nat, apart t (32 :: l) := fun l => by
        cases t with
        | word _ => exact fun c r e => by cases e; decide
        | num _ => exact fun c r e => by cases e; decide
        | str _ => trivial
        | sign _ => trivial
      cases g with
      | succ g => exact sp _
      | zero =>
        cases r with
        | nil =>
          cases tail with
          | nil => cases t <;> first | trivial | exact fun c r e => by cases e
          | cons c q => rw [hs c q rfl]; exact sp _
        | cons a b =>
          obtain ⟨u, h⟩ := a
          have q := hp.1 rfl
          show apart t (spell u ++ List.replicate h 32 ++ joined b ++ tail)
          have ne : spell u ≠ [] := by
            have gu := hg (u, h) (by simp)
            cases u with
            | word l => exact gu.1
            | num n => exact (numT_dig gu).1
            | str l => exact fun z => by cases z
            | sign c => exact fun z => by cases z
          cases e : spell u with
          | nil => exact absurd e ne
          | cons c v =>
            rw [e] at q
            cases t with
            | word _ => exact fun c' r' e' => by cases e'; exact q c _ rfl
            | num _ => exact fun c' r' e' => by cases e'; exact q c _ rfl
            | str _ => trivial
            | sign _ => trivial
    obtain ⟨c, v, e1, e2, e3⟩ := lex_spell (hg (t, g) List.mem_cons_self) ap
    have e0 : joined ((t, g) :: r) ++ tail = spell t ++ (List.replicate g 32 ++ (joined r ++ tail)) := by
      show spell t ++ List.replicate g 32 ++ joined r ++ tail = _
      simp only [List.append_assoc]
    rw [e0, e1]
    have e4 : (c :: v).drop (spell t).length = List.replicate g 32 ++ (joined r ++ tail) := by
      rw [← e1]
      exact List.drop_left' rfl
    have := Lex.tok e2 e3 (by rw [e4]; exact lex_blanks hr g)
    cases o with
    | none => exact this
    | some ts => exact this
end K1

set_option maxRecDepth 100000
set_option maxHeartbeats 8000000
/-! an own exception over ValueError, perhaps by way of another own class, whose __init__ begins with super().__init__(..) -/
namespace GS
open PySem PySem.Spec PyProof.Rows L2 NdefX
open PySem.W (kxs_mw)
section
variable {prog : Program} {w : World} {A : Around} {E : Value → Shared → Prop} {h : Heap} {g : Array GenState} {d : Drawn} {t : Nat} {os : OsState}
variable {nm q : Str} {C N : Addr} {bs bm : List Value} {hdct : Bool} {sn : List Str} {sub : List Value} {ab : Bool} {col : Option Bool} {dd : Option Addr} {k0 k1 k2 k3 k5 : Option Value}
/-- ValueError.__init__, bound to a new exception, called -/
theorem call_mw {u e t0 : Addr} {rest : List Value} {Q : Value → Shared → Prop}
    (hC : h.get? C = some (excClassObj nm q C N bs bm hdct sn sub ab col dd k0 k1 k2 k3 k5 "ValueError.__new__")) (he : h.get? e = some (PySem.W.excObj C t0 none .none)) (hu : h.get? u = some (kxs_mw "ValueError.__init__" e)) (hrest : rest.length ≤ sizeLine)
    (hq : ∀ h', (∀ b o, b ≠ e → h.get? b = some o → h'.get? b = some o) → h'.get? e = some (PySem.W.excObj C h.objs.size none .none) → Q .none ⟨h', g, d, t, os⟩) :
    wpAny (model prog w) A (call (.ref u) rest) Q E ⟨h, g, d, t, os⟩ := by
  have FB := F.excBase_ValueError
  refine wpAny_call (codeAny_of_tree (show wpAny _ A.in1 (callAny (.ref u) ⟨rest, []⟩) _ _ _ from ?_))
  unfold callAny
  refine wpAny_bind (wpAny_load hu ?_)
  dsimp only [kxs_mw]
  refine PySem.W.KFB.if_so (by decide) (wpAny_bind (PySem.W.check_bound_init FB.toExcCallFacts hC he rfl (wpAny_bind (wpAny_pure (wpAny_pure ⟨plainId_quiet FB.init.plain _, codeAny_builtin FB.initEntry ?_⟩)))))
  exact PySem.W.exc_init_tree (cls := .ref C) (t0 := t0) (dv := none) (c2 := .none) (c3 := .none) (b4 := .bool false) he hrest fun h' k e' _ => hq h' k e'
end

section
variable {CX : CXT} {P : Program} {w : World} {K : PySem.W.Frag} {mg : Str → Option Value} {base : Heap} {k : Nat} {f cc cda D : Addr} {sp : L2.Sp} {st : Stmt} {x qual : Str} {ps : List Str} {N : List Str}
variable {oc kV dV doc pm ct ccl cl : Value} {od an cdd cld : Option Addr} {osl ccs csl : Array (Option Value)} {vs0 : Array Value} {file : Str} {tf : PySem.Tok} {cdD : ClassData}
variable {e : Expr} {es : List Expr} {rest : List Stmt} {p0 p1 p2 p3 p4 : Pos}
abbrev nf (x qual : Str) (st : Stmt) (cc cda : Addr) : NF := ⟨x, qual, defArgs st, defBody st, defScope st, [("__class__", cc)], cda⟩
/-- what the written part says of such an __init__ -/
structure SupK (P : Program) (K : PySem.W.Frag) (mg : Str → Option Value) (x qual : Str) (st : Stmt) (f cc cda D : Addr) : Prop where
  fn : ∃ oc od kV doc pm an ct osl, K.lookup f = some ⟨oc, od, .func (PySem.W.ksFn x qual (defArgs st) (defBody st) (defScope st) .none kV doc pm an (.ref cda) ct cc), osl⟩
  code : PySem.W.codeIn K (.ref cda) qual = true
  file : ∃ ccl cdd vs0 ccs file tf, K.lookup cda = some ⟨ccl, cdd, .fields vs0, ccs⟩ ∧ vs0[2]? = some (.str file tf) ∧ ((P.main.file : Str) == file) = true
  cell : ∃ cl cld csl, K.lookup cc = some ⟨cl, cld, .cell (some (.ref D)), csl⟩
  sub : PySem.W.mroIn K D (.ref D) = some true
  sup : mg "super" = none
  opq : PySem.W.nsIn K cStatics "thirdparty.any" = some none
  ini : PySem.W.ks_superIn K D D "__init__" = some (some (.builtin "ValueError.__init__"))
  isVE : PySem.W.subIn K (.ref D) (.type "ValueError") = some true
  top : (P.main.scope.names.lookup ("super" : Str)).isSome = false
  cls : OexC K D
theorem ok_super {ar : Arg} {pl : Env → Sem Bool} (T : SupK P K mg x qual st f cc cda D) (S : NScope N ps ["__class__"] (defScope st))
    (hbody : defBody st = .Expr (.Call (.Attribute (.Call (.Name "super" p0) [] [] p1) "__init__" p2) (e :: es) [] p3) p4 :: rest)
    (hks : (defScope st).names.lookup ("super" : Str) = some .globalImplicit) (hpar : ((defArgs st).posonlyargs ++ (defArgs st).args).head? = some ar) (hps : ps.head? = some ar.arg)
    (he : ∀ env, starEach (e :: es) env = (false, eval e env) :: starEach es env) (hpl : ∀ env pos, (backTo pos (starEach es env)).any (·.1) = false)
    (hc : ∀ env, eval (.Call (.Attribute (.Call (.Name "super" p0) [] [] p1) "__init__" p2) (e :: es) [] p3) env = (do
      let ov ← attributeBase (.Call (.Name "super" p0) [] [] p1) "__init__" env (eval (.Call (.Name "super" p0) [] [] p1) env)
      standAt p2.atName
      let (f, first) ← holding [ov] (getMethod ov "__init__" (pl env))
      callWith p3 f first (backTo p3 (starEach (e :: es) env)) []))
    (hsw : ∀ env, swapsWith (.Call (.Attribute (.Call (.Name "super" p0) [] [] p1) "__init__" p2) (e :: es) [] p3) none p4.line env = pure false)
    (hbi : ∀ kV doc pm an ct, Binds K (PySem.W.ksFn x qual (defArgs st) (defBody st) (defScope st) .none kV doc pm an (.ref cda) ct cc) ps [])
    (len : ∀ vs H Q E, sp vs H Q E → vs.length = ps.length)
    (hb : ∀ (A : Around) (outer : List Env) (s : Shared) (H : Hp) (vs : List V) (Q : VK) (E : XK), Room k (A.deeper (envF (nf x qual st cc cda) f s.heap.objs.size)) → sp vs H Q E →
      ∃ a ws ta t, vs = .ref a :: ws ∧ H a = some (exo a D none) ∧ PA (ncx CX P w K mg base N (nf x qual st cc cda) f A outer s H E) (e :: es) ta ∧ PSs (ncx CX P w K mg base N (nf x qual st cc cda) f A outer s H E) rest t ∧
        ta (startF N vs [some (.ref D)]) H fun us H1 => us.length ≤ 1000 ∧ H1 a = some (exo a D none) ∧ t { nx := fun _ H' => Q .non H', rt := Q } (startF N vs [some (.ref D)]) H1) :
    ∃ fd, Binds K fd ps [] ∧ FnOk P w K mg base CX (k + 1) f fd ps sp := by
  obtain ⟨oc, od, kV, doc, pm, an, ct, osl, lk⟩ := T.fn
  obtain ⟨ccl, cdd, vs0, ccs, file, tf, lcd, hvs, hfile⟩ := T.file
  obtain ⟨cl, cld, csl, lcell⟩ := T.cell
  obtain ⟨nm, q, N', bs, bm, sn, sub, ab, col, dd, k0, k1, k2, k3, k5, hC, hbm⟩ := T.cls.cls
  refine ⟨_, hbi kV doc pm an ct, len, fun A outer s H args us vs Q E hr z0 hbd r hs => ?_⟩
  have hl := len _ _ _ _ hs
  have kx : K.In s.heap := z0.mod.kin.keeps fun b o e => (z0.bs b o e).1
  have nl : s.heap.NoLimit := z0.mod.nolimit.keeps fun b o e => (z0.bs b o e).1
  have hloc : ∀ y ∈ ps.zip us, (defScope st).names.lookup y.1 = some .local := by
    rintro ⟨n, v⟩ hy
    exact S.par n (List.of_mem_zip hy).1
  have hkcl : (defScope st).names.lookup ("__class__" : Str) = some .free := S.frk "__class__" List.mem_cons_self
  have har : ar.arg ∈ ps := by
    cases ps with
    | nil => cases hps
    | cons p r => rw [Option.some.inj hps]; exact List.mem_cons_self
  refine ks_codeAny_call_defAt (fd := PySem.W.ksFn x qual (defArgs st) (defBody st) (defScope st) .none kV doc pm an (.ref cda) ct cc) (body := defBody st) hr.depth (kx _ _ lk) rfl nl (PySem.W.codeRec_of kx T.code) rfl hbd S.nocell hloc (fun h₀ hns hk => ?_) S.co S.gen S.kind
  obtain ⟨a, ws, ta, t, evs, ea, hta, ht, hrd⟩ := hb A outer s H vs Q E (hr.deeper _) hs
  have CA : CellsAt [("__class__", cc)] ["__class__"] [some (V.ref D)] s.heap H := by
    have ec : ∀ y c, ([("__class__", cc)] : List (Str × Addr)).lookup y = some c → y = "__class__" ∧ c = cc := fun y c z => by
      have m := PySem.mem_of_lookup z
      have m := List.mem_singleton.mp m
      injection m with m1 m2
      exact ⟨m1, m2⟩
    have hcell : s.heap.IsCell cc (some (.ref D)) := ⟨_, kx _ _ lcell, rfl⟩
    refine ⟨rfl, fun y c z => ?_, fun x y c z1 z2 => (ec _ _ z1).1.trans (ec _ _ z2).1.symm, fun i y hy => ?_⟩
    · obtain ⟨_, rfl⟩ := ec y c z
      exact ⟨(z0.bs _ _ (z0.mod.kin _ _ lcell)).2, _, hcell⟩
    · match i with
      | 0 =>
        cases hy
        refine ⟨cc, rfl, fun v hv => ?_⟩
        cases hv
        exact ⟨_, rfl, hcell⟩
      | i + 1 => simp at hy
  have J := inv_startN (CX := CX) (E := E) (F := nf x qual st cc cda) (f := f) (tk := s.toks + (ps.zip us).length) S hr.hd z0 hl r CA hns hk
  have kx1 : K.In h₀ := J.kIn
  obtain ⟨hp, g, dr, tk, os⟩ := s
  have hcl : PySem.W.clsIn K D = some { name := nm, bases := bs, mro := .ref D :: bm, ns := N', qualname := q, hasDict := true, slotNames := sn, subclasses := sub, abstract := ab, collection := col, hasDel := false } := by
    unfold PySem.W.clsIn
    rw [hC]
  have ini := T.ini
  unfold PySem.W.ks_superIn at ini
  rw [hcl] at ini
  have haD : a ≠ D := fun z => by
    rw [z, (z0.bs _ _ (z0.mod.kin _ _ hC)).2] at ea
    cases ea
  have e1 : execs (defBody st) (envF (nf x qual st cc cda) f hp.objs.size) = execs (.Expr (.Call (.Attribute (.Call (.Name "super" p0) [] [] p1) "__init__" p2) (e :: es) [] p3) p4 :: rest) (envF (nf x qual st cc cda) f hp.objs.size) := by rw [hbody]
  show PySem.wpAt (model P w) (A.deeper (envF (nf x qual st cc cda) f hp.objs.size)) (.func (defBody st) (envF (nf x qual st cc cda) f hp.objs.size)) (execs (defBody st) (envF (nf x qual st cc cda) f hp.objs.size)) _ _ _
  rw [e1]
  have hin : interactive (envF (nf x qual st cc cda) f hp.objs.size) = false := by
    unfold interactive
    have e9 : (envF (nf x qual st cc cda) f hp.objs.size).scope.kind = .function := S.kind
    rw [e9]
    rfl
  refine ks_wpAt_execs_cons (ks_wpAt_Expr_any (ks_wpAt_MethodCall ?_ (hc _)) hin (hsw _))
  refine ks_wpAt_super_base hks hkcl (by decide) rfl (kx1 _ _ lk) rfl hpar rfl (kx1 _ _ lcd) rfl hvs hfile T.top ?_
  obtain ⟨mb, hb1, hb2⟩ := J.mod.blt
  refine PySem.W.ks_loadName_global S.kind hks (Calls.loadGlobal_builtin (J.mod.glob.keeps J.bk) T.sup (hb1.keeps J.bk) ((hb2 "super" (by decide)).trans (by kernel_rfl : bootBuiltins "super" = some (.type "super"))) ⟨rfl, ?_⟩)
  refine wpAny_loadName_free S.kind hkcl rfl ⟨_, kx1 _ _ lcell, rfl⟩ ?_
  have hself : (ps.zip us).reverse.lookup ar.arg = some (.ref a) := by
    subst evs
    cases r with
    | @cons _ u0 _ ur ra rw' =>
      obtain rfl : u0 = Value.ref a := ra
      have ndP : ps.Nodup := by
        have q := S.nd.sublist (List.take_sublist (ps.length + 1) N)
        have e9 : N.take (ps.length + 1) = ps ++ [("__class__" : Str)] := S.pre
        rw [e9] at q
        exact (List.nodup_append.mp q).1
      refine zip_look (i := 0) ndP ?_ rfl
      rw [← List.head?_eq_getElem?]
      exact hps
  refine wpAny_loadName_local S.kind (S.par ar.arg har) hns hself ?_
  refine ks_wpAny_isType_cls (kx1 _ _ hC) rfl ⟨rfl, ?_⟩
  obtain ⟨t1, ho⟩ := exo_at J.hok ea
  refine ks_wpAny_call_super (kx1 _ _ hC) rfl ho rfl (fun c z => by cases z) (PySem.W.looks_mroIn kx1 T.sub) (fun h1 hso k1 => ?_)
  have J1 := J.kept (t' := tk + (ps.zip us).length) k1
  have kx2 : K.In h1 := J1.kIn
  have I1 : PySem.W.InstAt h1 a _ D none := ⟨k1 _ _ ho, rfl, rfl, trivial⟩
  refine PySem.W.kxs_getMethod PySem.W.kxs_ValueError hso (PySem.W.looks_opaque kx2 T.opq) ((PySem.W.looks_clsIn kx2 hcl).andThen .now) rfl kx2 ini (I1.type.andThen (PySem.W.looks_subIn kx2 T.isVE)) haD (by decide) ?_
  have J2 := (J1.kept (t' := tk + (ps.zip us).length + 1) (fun b o z => Heap.get?_push_of_some (kxs_mw "ValueError.__init__" a) z)).pins_of (pins' := [(h1.objs.size, kxs_mw "ValueError.__init__" a)]) fun p hp' => by
    rw [List.mem_singleton.mp hp']
    exact ⟨Heap.get?_push_size _ rfl, J1.hok.fresh (Nat.le_refl _), Nat.ne_of_gt J1.lt, J1.nofs (Nat.le_refl _), fun v z => by cases z⟩
  refine PySem.W.kxs_callWith (i := "ValueError.__init__") (x := a) (by rw [he]; show (false || _) = false; rw [Bool.false_or]; exact hpl _ _) ?_
  rw [he]
  refine Calls.evalArgs_plain ?_
  have run := hta.run p3 _ _ _ H _ J2 hrd
  rw [he] at run
  refine thn run fun us3 s3 hAP => ?_
  obtain ⟨vs3, H3, I3, r3, hlen, ea3, q3⟩ := hAP
  refine ⟨(I3.pin _ List.mem_cons_self).1, ?_⟩
  obtain ⟨t3, ho3⟩ := exo_at I3.hok ea3
  have hu3 := (I3.pin _ List.mem_cons_self).1
  obtain ⟨hp3, g3, dr3, tk3, os3⟩ := s3
  refine call_mw (I3.kIn _ _ hC) ho3 hu3 ?_ fun h4 k4 he4 => ?_
  · show us3.length ≤ _
    rw [← Paired.length r3, sizeLine_eq]
    omega
  have J4 := I3.write (t' := tk3) (x := a) (e := a) (o := exo a D none) (by rw [ea3]; exact True.intro) (.inl rfl) k4 ⟨_, he4⟩ (exo_ok he4)
  have eu : upd H3 a (exo a D none) = H3 := by
    funext b
    by_cases hb' : b = a
    · rw [hb', upd_same, ea3]
    · rw [upd_ne hb']
  rw [eu] at J4
  have J5 := J4.pins_of (pins' := []) fun p hp' => by cases hp'
  refine wpAt_of_wpAny (wpAny_mono (ht.run [] _ _ H3 _ J5 q3) (fun fl s' hs' => ?_) fun e s' hs' => hs')
  cases fl with
  | ret u =>
    obtain ⟨v, σ2, H2, I2, rv, q⟩ := hs'
    exact ⟨v, H2, I2.os, I2.bare, I2.base, I2.hok, rv, q⟩
  | next =>
    obtain ⟨σ2, H2, I2, q⟩ := hs'
    exact ⟨V.non, H2, I2.os, I2.bare, I2.base, I2.hok, rfl, q⟩
  | brk =>
    obtain ⟨_, _, _, q⟩ := hs'
    exact q.elim
  | cont =>
    obtain ⟨_, _, _, q⟩ := hs'
    exact q.elim
end
end GS

set_option maxRecDepth 100000
set_option maxHeartbeats 8000000
/-! try with several clauses, each with a name of its own or none -/
namespace GS
open PySem PySem.Spec PyProof.Rows L2
abbrev Suite := Addr → Value → Option Addr → TS
/-- the ends of a suite whose name, in slot i, is gone behind it -/
def gone (D : Ends) (i : Nat) : Ends := { nx := fun σ H => D.nx (σ.set i none) H, rt := D.rt, bk := fun σ H => D.bk (σ.set i none) H, ct := fun σ H => D.ct (σ.set i none) H }
/-- what the clauses wish, one after the other; none left: W -/
def wA (K : PySem.W.Frag) (W : WX) (D : Ends) : List (Value × Option Nat × Suite) → WX
  | [] => W
  | (c, o, ts) :: r => fun cls d σ H => ∃ b, PySem.W.exmOne K cls c = some b ∧
      (b = true → ∀ a, H a = none → match o with
        | none => ts a cls d D σ H
        | some i => ts a cls d (gone D i) (σ.set i (some (.ref a))) H) ∧ (b = false → wA K W D r cls d σ H)
inductive Clauses (X : Cx) : List ExceptHandler → List (Value × Option Nat × Suite) → Prop
  | nil : Clauses X [] []
  | bare {x : Str} {c : Value} {ts : Suite} {b₀ : Stmt} {su : List Stmt} {q1 q2 : Pos} {hs : List ExceptHandler} {l : List (Value × Option Nat × Suite)} (hc : Names X x c)
      (hsu : ∀ (a : Addr) (oe : Obj) (cls : Value) (d : Option Addr) (pn : List (Addr × Obj)), Zc cls d oe → (∃ vs, oe.data = .fields vs) → PSs (X.suite a ((a, oe) :: pn)) (b₀ :: su) (ts a cls d)) (r : Clauses X hs l) :
      Clauses X (.ExceptHandler (some (.Name x q1)) none (b₀ :: su) q2 :: hs) ((c, none, ts) :: l)
  | named {x n : Str} {i : Nat} {c : Value} {ts : Suite} {b₀ : Stmt} {su : List Stmt} {q1 q2 : Pos} {hs : List ExceptHandler} {l : List (Value × Option Nat × Suite)} (hc : Names X x c) (hi : X.N[i]? = some n) (hn : X.env.kindOf n = some .local)
      (hsu : ∀ (a : Addr) (oe : Obj) (cls : Value) (d : Option Addr) (pn : List (Addr × Obj)), Zc cls d oe → (∃ vs, oe.data = .fields vs) → PSs (X.suite a ((a, oe) :: pn)) (b₀ :: su) (ts a cls d)) (r : Clauses X hs l) :
      Clauses X (.ExceptHandler (some (.Name x q1)) (some n) (b₀ :: su) q2 :: hs) ((c, some i, ts) :: l)
section
variable {X : Cx} {body : List Stmt} {h₀ : ExceptHandler} {hds : List ExceptHandler} {l : List (Value × Option Nat × Suite)} {pos : Pos} {tb : WX → TS} {Wout : WX}
/-- the clause's class, read where the exception is handled -/
theorem cls_read {x : Str} {c : Value} {np : Pos} {a : Addr} {pn : List (Addr × Obj)} {σ : L2.St} {H : Hp} {s : Shared} (hc : Names X x c) (S : Inv (X.suite a pn) [] σ H s) {Q : Value → Shared → Prop} {E : Value → Shared → Prop} (q : Q c s) :
    wpAny (model X.prog X.w) (X.A.mark (some (.ref a))) (eval (.Name x np) X.env) Q E s := by
  obtain ⟨hg, hdb, h | ⟨hm, hv, hn⟩⟩ := hc
  · exact ld_glob (X := X.suite a pn) S hg h q hdb
  · exact ld_blt (X := X.suite a pn) S hg hm hv q hn hdb
theorem ps_tryA (hs : X.stack = X.env :: X.outer) (hf : X.env.frame = some X.env.locals) (hN : X.N.Nodup) (tk : Takes X Wout)
    (hb : ∀ (W : WX) (pn : List (Addr × Obj)) (xe : Value → Shared → Prop), Takes (X.tr pn xe) W → PassesOwn (model X.prog X.w) X.A X.env xe → PSs (X.tr pn xe) body (tb W))
    (hh : Clauses X (h₀ :: hds) l) : PS X (.Try body (h₀ :: hds) [] [] pos) (fun D σ H => tb (wA X.K Wout D l) D σ H) := by
  refine ⟨fun pins s σ H D I h => wpAny_Try_except ?_⟩
  have ok := I.ok
  have hfr : X.A.frames = some (X.env :: X.outer) := by rw [ok.frames, hs]
  let xe : Value → Shared → Prop := fun e s₁ => wpAny (model X.prog X.w) X.A (noteFrame e X.env) (fun _ s₂ => wpAny (model X.prog X.w) X.A (setFlight e none) (fun _ s₃ => wpAny (model X.prog X.w) X.A (handleBy e X.env (h₀ :: hds)) (SP X pins D) X.xe s₃) X.xe s₂) X.xe s₁
  refine wpAny_mono ((hb (wA X.K Wout D l) (X.pn ++ pins) xe (fun u s' xx => ?_) PassesOwn.looking).run [] s σ H D (I.toTry _) h) (fun f s1 hsp => ?_) (fun e s1 he => he)
  rotate_left
  · cases f with
    | ret u =>
      obtain ⟨v, σ', H', J', r, q⟩ := hsp
      exact ⟨v, σ', H', J'.ofTry ok, r, q⟩
    | next =>
      obtain ⟨σ', H', J', q⟩ := hsp
      exact wpAny_execs_nil ⟨σ', H', J'.ofTry ok, q⟩
    | brk =>
      obtain ⟨σ', H', J', q⟩ := hsp
      exact ⟨σ', H', J'.ofTry ok, q⟩
    | cont =>
      obtain ⟨σ', H', J', q⟩ := hsp
      exact ⟨σ', H', J'.ofTry ok, q⟩
  obtain ⟨a, B, sI, pins', σ', H', cls, d, rfl, J', nb, up, sky, na, os, ag, w⟩ := xx
  have J : Inv X pins σ' H' sI := J'.ofTry ok
  have sky' : Sky B (X.env :: X.outer) a (Zc cls d) X.env.locals s'.heap := hs ▸ sky
  show wpAny _ X.A (noteFrame (.ref a) X.env) _ _ _
  refine Sky.land Zc.steady hfr hf sky' fun h3 fl3 up3 => ?_
  have J3 : Inv X pins σ' H' { s' with heap := h3 } := J.landed nb fl3.1 (up.trans up3) os ag
  obtain ⟨oe3, vs3, he3, hz3, hd3⟩ := fl3.there
  have nfr : a ∉ frs (X.env :: X.outer) := fun hm => by
    obtain ⟨_, o', e', hnf⟩ := fl3.2.2.1.mem hm
    rw [he3] at e'
    cases e'
    exact hnf _ hd3
  have nL : a ≠ X.env.locals := fun z => nfr (List.mem_filterMap.mpr ⟨X.env, List.mem_cons_self, by rw [hf, z]⟩)
  have nF : a ∉ X.fs := fun hm => by
    obtain ⟨e, he, q⟩ := List.mem_filterMap.mp hm
    exact nfr (List.mem_filterMap.mpr ⟨e, List.mem_cons_of_mem _ he, q⟩)
  have S3 := J3.suite he3 hd3 na nL nF
  have go : ∀ {hds' : List ExceptHandler} {l' : List (Value × Option Nat × Suite)}, Clauses X hds' l' → wA X.K Wout D l' cls d σ' H' →
      wpAny (model X.prog X.w) X.A (handleBy (.ref a) X.env hds') (SP X pins D) X.xe { s' with heap := h3 } := by
    intro hds' l' hk
    induction hk with
    | nil =>
      intro w
      refine wpAny_handleBy_nil ?_
      obtain ⟨_, _, _, oe, vs, T, oT, ts', he, hz, hd, h1, hr⟩ := id fl3
      unfold PySem.passOn
      refine wpAny_bind (wpAny_field he hd h1 ?_)
      rw [if_neg (show ¬ ((Value.ref T == Value.none) = true) from by simp)]
      have fin : wpAny (model X.prog X.w) X.A (setFlight (.ref a) X.env.frame) (fun _ s4 => wpAny (model X.prog X.w) X.A (throw (.ref a) : Sem Flow) (SP X pins D) X.xe s4) X.xe { s' with heap := h3 } := by
        rw [hf]
        exact HandSPX.setFlight_upZ fl3 fun h4 hh4 up4 => wpAny_throw (tk _ _ ⟨a, B, sI, pins, σ', H', cls, d, rfl, J, nb, (up.trans up3).trans up4, .inr (.inr (by rw [hs]; exact hh4)), na, os, ag, w⟩)
      first
        | exact wpAny_bind (wpAny_pure (wpAny_bind fin))
        | exact wpAny_bind fin
    | @bare x c ts b₀ su q1 q2 hds2 l2 hc hsu r ih =>
      intro w
      obtain ⟨b, hb1, hyes, hno⟩ := w
      have LT : PySem.W.Looks (model X.prog X.w) h3 (typeOf (.ref a)) cls := fun A Q E s k q => wpAny_typeOf_ref (k _ _ he3) (by rw [hz3.1]; exact q)
      refine wpAny_handleBy_cons (codeAny_handlers_test (cls_read hc S3 ((PySem.W.exm_one (M := model X.prog X.w) J3.kIn LT hb1).here ?_))) (by intro q; cases q)
      cases b with
      | false => exact ih (hno rfl)
      | true =>
        refine codeAny_handlers_suite (HandSPX.lands_againZ fl3 fun h4 fl4 up4 => ?_)
        have J4 : Inv X pins σ' H' { s' with heap := h4 } := J.landed nb fl4.1 ((up.trans up3).trans up4) os ag
        obtain ⟨oe4, vs4, he4, hz4, hd4⟩ := fl4.there
        refine wpAny_mono ((hsu a oe4 cls d (X.pn ++ pins) hz4 ⟨_, hd4⟩).run [] _ _ H' _ (J4.suite he4 hd4 na nL nF) (hyes rfl a na)) (fun f s6 hsp => ?_) (fun _ _ z => False.elim z)
        cases f with
        | ret u =>
          obtain ⟨v6, σ6, H6, S6, r6, q6⟩ := hsp
          exact ⟨v6, σ6, H6, S6.unsuite ok, r6, q6⟩
        | next =>
          obtain ⟨σ6, H6, S6, q6⟩ := hsp
          exact ⟨σ6, H6, S6.unsuite ok, q6⟩
        | brk =>
          obtain ⟨σ6, H6, S6, q6⟩ := hsp
          exact ⟨σ6, H6, S6.unsuite ok, q6⟩
        | cont =>
          obtain ⟨σ6, H6, S6, q6⟩ := hsp
          exact ⟨σ6, H6, S6.unsuite ok, q6⟩
    | @named x n i c ts b₀ su q1 q2 hds2 l2 hc hi hln hsu r ih =>
      intro w
      obtain ⟨b, hb1, hyes, hno⟩ := w
      have LT : PySem.W.Looks (model X.prog X.w) h3 (typeOf (.ref a)) cls := fun A Q E s k q => wpAny_typeOf_ref (k _ _ he3) (by rw [hz3.1]; exact q)
      refine wpAny_handleBy_cons (codeAny_handlers_test (cls_read hc S3 ((PySem.W.exm_one (M := model X.prog X.w) J3.kIn LT hb1).here ?_))) (by intro q; cases q)
      cases b with
      | false => exact ih (hno rfl)
      | true =>
        refine codeAny_handlers_suite_as (HandSPX.lands_againZ fl3 fun h4 fl4 up4 => ?_)
        have J4 : Inv X pins σ' H' { s' with heap := h4 } := J.landed nb fl4.1 ((up.trans up3).trans up4) os ag
        obtain ⟨oe4, vs4, he4, hz4, hd4⟩ := fl4.there
        refine store_ok (X := X.suite a ((a, oe4) :: (X.pn ++ pins))) (v := .ref a) (J4.suite he4 hd4 na nL nF) hN hi (.inl hln) rfl (fun s5 S5 => ?_) (.inr hln)
        refine wpAny_mono ((hsu a oe4 cls d (X.pn ++ pins) hz4 ⟨_, hd4⟩).run [] s5 _ H' _ S5 (hyes rfl a na)) (fun f s6 hsp => ?_) (fun _ _ z => False.elim z)
        have fin : ∀ {σ6 : L2.St} {H6 : Hp} {Q : Shared → Prop}, Inv (X.suite a ((a, oe4) :: (X.pn ++ pins))) [] σ6 H6 s6 → (∀ s7, Inv X pins (σ6.set i none) H6 s7 → Q s7) →
            wpAny (model X.prog X.w) X.A (do bindName X.env n .none; unbindBehindTheSuite X.env n q2) (fun _ s7 => Q s7) X.xe s6 := fun S6 hq => gone_ok (S6.unsuite ok) hN hi hln hq
        cases f with
        | ret u =>
          obtain ⟨v6, σ6, H6, S6, r6, q6⟩ := hsp
          exact fin S6 fun s7 J7 => ⟨_, _, _, J7, r6, q6⟩
        | next =>
          obtain ⟨σ6, H6, S6, q6⟩ := hsp
          exact fin S6 fun s7 J7 => ⟨_, _, J7, q6⟩
        | brk =>
          obtain ⟨σ6, H6, S6, q6⟩ := hsp
          exact fin S6 fun s7 J7 => ⟨_, _, J7, q6⟩
        | cont =>
          obtain ⟨σ6, H6, S6, q6⟩ := hsp
          exact fin S6 fun s7 J7 => ⟨_, _, J7, q6⟩
  exact go hh w
end
end GS

set_option maxRecDepth 100000
set_option maxHeartbeats 4000000
namespace K1
open PySem PySem.Spec PyProof.Rows L2 GD
/-! ### the text -/
def topS (i : Nat) : Stmt := PySem.Challenge.pw_sameasnew_k42_cut_on_schedule.main.body.getD i (.Pass ⟨0, 0, 0, 0⟩)
abbrev sCell : Stmt := topS 13
abbrev sDigits : Stmt := topS 14
abbrev sDraw : Stmt := topS 15
/-- what the top leaves to the built-ins -/
structure Txt (K : PySem.W.Frag) (mg : Str → Option Value) : Prop where
  len : mg "len" = none
  range : mg "range" = none
  bint : mg "int" = none
  blist : mg "list" = none
  repr : mg "repr" = none
def Box (H : Hp) (b d : Addr) (ds : List Int) (at_ : Nat) : Prop :=
  H b = some (.lst [.ref d, .int at_]) ∧ H d = some (.lst (ds.map V.int)) ∧ ds.length ≤ 4000
theorem Box.ne {H : Hp} {b d : Addr} {ds : List Int} {at_ : Nat} (h : Box H b d ds at_) : d ≠ b := fun e => by
  obtain ⟨h1, h2, _⟩ := h
  rw [e, h1] at h2
  have q : [V.ref d, V.int at_] = ds.map V.int := by
    have := Option.some.inj h2
    injection this
  cases ds with
  | nil => cases q
  | cons x r => cases q
section
variable {P : Program} {w : World} {K : PySem.W.Frag} {mg : Str → Option Value} {base : Heap}
def spCell (K : PySem.W.Frag) : Sp := fun vs H Q _ => ∃ (a : Addr) (ns : List Int) (k : Nat), vs = [.ref a, .int k] ∧ SqL K H a (ns.map V.int) ∧ ∀ v : Int, Q (.int v) H
theorem scCell : FnScope ["script", "k"] ["script", "k"] (defScope sCell) := ⟨rfl, rfl, rfl, by decide +kernel, rfl, by decide +kernel, by decide +kernel⟩
theorem ok_cell {f : Addr} {fd : FuncData} (F : Fun K "_law_cell" "_law_cell" sCell f fd) (T : Txt K mg) : FnOk P w K mg base CX0 1 f fd ["script", "k"] (spCell K) := by
  have sc := scCell
  refine F.ok sc (fun vs H Q E h => ?_) (fun cdv A outer s H vs Q E hr h => ?_)
  · obtain ⟨a, ns, k, rfl, _⟩ := h
    rfl
  · obtain ⟨a, ns, k, rfl, hS, q⟩ := h
    refine ⟨_, (pss_cons (ps_if (pt_cmpR op_lt (pv 1) (pe_callB call_len_seq (by rfl) T.len (by decide +kernel) (pa_cons (pv 0) pa_nil)) (nomark _))
      (pss_one (ps_ret (pe_ix ix_list (pv 0) (pv 1) (fun _ _ => rfl)))) pss_nil)
      (pss_one (ps_ret pe_int))), ?_⟩
    refine ⟨_, rfl, _, rfl, a, _, rfl, .inl hS, _, _, rfl, rfl, _, rfl, ite2 (fun e => ?_) (fun e => ?_)⟩
    · have hk : k < ns.length := by
        have := of_decide_eq_true e
        rw [List.length_map] at this
        omega
      exact ⟨_, rfl, _, rfl, a, _, _, .int ns[k], rfl, rfl, hS, atI_nat (by rw [List.getElem?_map, List.getElem?_eq_getElem hk]; rfl), q _⟩
    · exact q 0
def spDraw : Sp := fun vs H Q _ => ∃ (b d : Addr) (ds : List Int) (at_ : Nat) (m : Int), vs = [.ref b, .int m] ∧ Box H b d ds at_ ∧ 0 < m ∧
  ∀ r : Int, 0 ≤ r → r < m → Q (.int r) (upd H b (.lst [.ref d, .int ((at_ + 1 : Nat) : Int)]))
theorem scDraw : FnScope ["box", "many", "at"] ["box", "many"] (defScope sDraw) := ⟨rfl, rfl, rfl, by decide +kernel, rfl, by decide +kernel, by decide +kernel⟩
theorem ok_draw {f : Addr} {fd : FuncData} (F : Fun K "_law_draw" "_law_draw" sDraw f fd) (T : Txt K mg) : FnOk P w K mg base CX0 1 f fd ["box", "many"] spDraw := by
  have sc := scDraw
  refine F.ok sc (fun vs H Q E h => ?_) (fun cdv A outer s H vs Q E hr h => ?_)
  · obtain ⟨b, d, ds, at_, m, rfl, _⟩ := h
    rfl
  · obtain ⟨b, d, ds, at_, m, rfl, hB, hm, q⟩ := h
    refine ⟨_, (pss_cons (ps_set (i := 2) sc.nd rfl (.inl rfl) (pe_ix ix_list (pv 0) pe_int (fun _ _ => rfl)))
      (pss_cons (ps_asg (pe_op op_add (pv 2) pe_int) (pg_sub (pv 0) pe_int set_list))
      (pss_cons (ps_if (pt_cmpR op_lt (pv 2) (pe_callB call_len_seq (by rfl) T.len (by decide +kernel) (pa_cons (pe_ix ix_list (pv 0) pe_int (fun _ _ => rfl)) pa_nil)) (nomark _))
      (pss_one (ps_ret (pe_op op_mod (pe_callTy call_int1 (by rfl) T.bint (by decide +kernel) (pa_cons (pe_ix ix_list (pe_ix ix_list (pv 0) pe_int (fun _ _ => rfl)) (pv 2) (fun _ _ => rfl)) pa_nil)) (pv 1)))) pss_nil)
      (pss_one (ps_ret (pe_op op_mod (pe_callTy call_int1 (by rfl) T.bint (by decide +kernel) (pa_cons (pe_op op_add (pe_op op_mul (pv 2) pe_int) pe_int) pa_nil)) (pv 1))))))), ?_⟩
    obtain ⟨h1, h2, h3⟩ := hB
    have nd : d ≠ b := Box.ne ⟨h1, h2, h3⟩
    refine ⟨_, rfl, b, _, 1, .int at_, rfl, rfl, SqL.of h1, atI_nat (j := 1) rfl, ?_⟩
    refine ⟨_, rfl, _, _, rfl, rfl, _, rfl, b, _, 1, 1, rfl, rfl, h1, rfl, ?_⟩
    have e1 : upd H b (.lst ([V.ref d, V.int at_].set 1 (.int ((at_ : Int) + 1)))) b = some (.lst [.ref d, .int ((at_ + 1 : Nat) : Int)]) := upd_same
    have e2 : upd H b (.lst ([V.ref d, V.int at_].set 1 (.int ((at_ : Int) + 1)))) d = some (.lst (ds.map V.int)) := by rw [upd_ne nd]; exact h2
    refine ⟨_, rfl, _, rfl, b, _, 0, .ref d, rfl, rfl, SqL.of e1, atI_nat (j := 0) rfl, d, _, rfl, .inl (SqL.of e2), _, _, rfl, rfl, _, rfl, ite2 (fun e => ?_) (fun e => ?_)⟩
    · have hk : at_ < ds.length := by
        have := of_decide_eq_true e
        rw [List.length_map] at this
        omega
      refine ⟨_, rfl, b, _, 0, .ref d, rfl, rfl, SqL.of e1, atI_nat (j := 0) rfl, _, rfl, d, _, _, .int ds[at_], rfl, rfl, SqL.of e2, atI_nat (by rw [List.getElem?_map, List.getElem?_eq_getElem hk]; rfl), .inl ⟨_, rfl, ?_⟩⟩
      exact ⟨_, rfl, _, _, rfl, rfl, hm, q _ (Int.emod_nonneg _ (by omega)) (Int.emod_lt_of_pos _ hm)⟩
    · refine ⟨_, rfl, _, _, rfl, rfl, .inr (by decide), _, _, rfl, rfl, .inl ⟨_, rfl, ?_⟩⟩
      exact ⟨_, rfl, _, _, rfl, rfl, hm, q _ (Int.emod_nonneg _ (by omega)) (Int.emod_lt_of_pos _ hm)⟩
end
end K1

set_option maxRecDepth 100000
set_option maxHeartbeats 4000000
namespace K1
open PySem PySem.Spec PyProof.Rows L2 GD
section
variable {P : Program} {w : World} {K : PySem.W.Frag} {mg : Str → Option Value} {base : Heap}

theorem snoc_ints (ds : List Int) (x : Int) : ds.map V.int ++ [V.int x] = (ds ++ [x]).map V.int := by rw [List.map_append]; rfl
theorem Same.lst {H H1 : Hp} {D : Addr} {o : HO} (s : Same H H1) (n : H D = none) : Same H (upd H1 D o) := fun b u e => by
  rw [upd_ne (ne_of_none e n)]
  exact s b u e

def spDigits (K : PySem.W.Frag) : Sp := fun vs H Q _ => ∃ (a : Addr) (ns : List Int), vs = [.ref a, .int 0, .int 63] ∧ SqL K H a (ns.map V.int) ∧
  ∀ (H' : Hp) (D : Addr) (ds : List Int), Same H H' → H D = none → H' D = some (.lst (ds.map V.int)) → ds.length ≤ 4000 → Q (.ref D) H'
theorem scDigits : FnScope ["script", "first", "last", "digits", "k", "cell", "turn", "seed"] ["script", "first", "last"] (defScope sDigits) := ⟨rfl, rfl, rfl, by decide +kernel, rfl, by decide +kernel, by decide +kernel⟩
theorem ok_digits {f fc : Addr} {fd fdc : FuncData} (F : Fun K "_law_digits" "_law_digits" sDigits f fd) (T : Txt K mg) (FC : FnOk P w K mg base CX0 1 fc fdc ["script", "k"] (spCell K))
    (mc : mg "_law_cell" = some (.ref fc)) (kc : PySem.W.keepIn K (.ref fc) = true) (bc : Binds K fdc ["script", "k"] []) : FnOk P w K mg base CX0 2 f fd ["script", "first", "last"] (spDigits K) := by
  have sc := scDigits
  refine F.ok sc (fun vs H Q E h => ?_) (fun cdv A outer s H vs Q E hr h => ?_)
  · obtain ⟨a, ns, rfl, _⟩ := h
    rfl
  · obtain ⟨a, ns, rfl, hS, q⟩ := h
    refine ⟨_, (pss_cons (ps_set (i := 3) sc.nd rfl (.inl rfl) (pe_lst pa_nil))
(pss_cons (ps_for PassesOwn.never rfl (pi_range2 rfl T.range (pa_cons (pv 1) (pa_cons (pv 2) pa_nil))) (pg_name (i := 4) sc.nd rfl (.inl rfl))
(pss_cons (ps_set (i := 5) sc.nd rfl (.inl rfl) (pe_call FC hr (by rfl) mc kc bc .nil pass0 (pa_cons (pv 0) (pa_cons (pv 4) pa_nil))))
(C8.pss_cut (ps_if (pt_cmpR op_lt (pv 5) pe_int (nomark _))
(pss_one (ps_set (i := 5) sc.nd rfl (.inl rfl) (pe_op op_sub pe_int (pe_op op_mul pe_int (pv 5))))) pss_nil)
(pss_one (ps_if (pt_cmpR op_ge (pv 5) pe_int (nomark _))
(pss_one (ps_for PassesOwn.never rfl (pi_range1 rfl T.range (pa_cons pe_int pa_nil)) (pg_name (i := 6) sc.nd rfl (.inl rfl))
(pss_one (ps_if (pt_cmpR op_gt (pv 5) pe_int (nomark _))
(pss_cons (ps_expr (pe_bm PySem.F.plainAttrs_list PySem.F.slot_list_append PySem.F.type_list_append mt_append (pv 3) (pa_cons (pe_op op_mod (pe_callTy call_int1 (by rfl) T.bint (by decide +kernel) (pa_cons (pv 5) pa_nil)) pe_int) pa_nil)))
(pss_one (ps_set (i := 5) sc.nd rfl (.inl rfl) (pe_op op_fdiv (pv 5) pe_int)))) pss_nil)))) (pss_cons (ps_set (i := 7) sc.nd rfl (.inl rfl) (pe_op op_mod (pe_callTy call_int1 (by rfl) T.bint (by decide +kernel) (pa_cons (pe_op op_add (pe_op op_add (pe_op op_mul (pv 5) pe_int) (pe_op op_mul (pv 4) pe_int)) pe_int) pa_nil)) pe_int))
(pss_one (ps_for PassesOwn.never rfl (pi_range1 rfl T.range (pa_cons pe_int pa_nil)) (pg_name (i := 6) sc.nd rfl (.inl rfl))
(pss_cons (ps_set (i := 7) sc.nd rfl (.inl rfl) (pe_op op_mod (pe_callTy call_int1 (by rfl) T.bint (by decide +kernel) (pa_cons (pe_op op_add (pe_op op_add (pe_op op_mul (pv 7) pe_int) (pe_op op_mul pe_int (pv 6))) pe_int) pa_nil)) pe_int))
(pss_one (ps_expr (pe_bm PySem.F.plainAttrs_list PySem.F.slot_list_append PySem.F.type_list_append mt_append (pv 3) (pa_cons (pe_op op_mod (pe_callTy call_int1 (by rfl) T.bint (by decide +kernel) (pa_cons (pe_op op_fdiv (pv 7) pe_int) pa_nil)) pe_int) pa_nil)))))))))))))
(pss_one (ps_ret (pv 3))))), ?_⟩
    refine ⟨Nat.zero_le _, fun D hD => ?_⟩
    refine ⟨_, rfl, _, rfl, 0, 63, rfl, ⟨by decide, by decide, by decide, by decide⟩, for_range (lo := 0) (n := 63) (fun i σ H' => ∃ (ds : List Int) (y4 y5 y6 y7 : Option V), σ = [some (.ref a), some (.int 0), some (.int 63), some (.ref D), y4, y5, y6, y7] ∧ Same H H' ∧ H' D = some (.lst (ds.map V.int)) ∧ ds.length ≤ 60 * i)
      ⟨[], none, none, none, none, rfl, Same.lst (Same.refl H) hD, upd_same, Nat.zero_le _⟩ ?_ ?_⟩
    · rintro i σ H1 hi ⟨ds, y4, y5, y6, y7, rfl, s1, e1, l1⟩
      refine ⟨_, rfl, _, rfl, a, ns, i, by rw [Int.zero_add]; rfl, s1.seq hS, fun c => ?_⟩
      refine ⟨fun σ' H' => ∃ c : Int, σ' = [some (.ref a), some (.int 0), some (.int 63), some (.ref D), some (.int (0 + (i : Nat))), some (.int c), y6, y7] ∧ H' = H1, ⟨_, rfl, _, _, rfl, rfl, _, rfl, ite2 (fun _ => ?_) (fun _ => ?_)⟩, ?_⟩
      · exact ⟨_, rfl, _, _, rfl, rfl, .inl (by decide), _, _, rfl, rfl, _, rfl, rfl⟩
      · exact ⟨_, rfl, rfl⟩
      · rintro σ' H' ⟨c, rfl, rfl⟩
        have big : ∀ {n : Nat}, n ≤ 5000 → n < sizeLine := fun h => Nat.lt_of_le_of_lt h (by decide)
        refine ⟨_, rfl, _, _, rfl, rfl, _, rfl, ite2 (fun _ => ?_) (fun _ => ?_)⟩
        · refine ⟨_, rfl, by decide, by decide, for_range (lo := 0) (n := 60) (fun j σ H' => ∃ (ds2 : List Int) (c2 : Int) (y6 : Option V), σ = [some (.ref a), some (.int 0), some (.int 63), some (.ref D), some (.int (0 + (i : Nat))), some (.int c2), y6, y7] ∧ Same H H' ∧ H' D = some (.lst (ds2.map V.int)) ∧ ds2.length ≤ 60 * i + j)
            ⟨ds, c, y6, rfl, s1, e1, l1⟩ ?_ ?_⟩
          · rintro j σ H2 hj ⟨ds2, c2, y6, rfl, s2, e2, l2⟩
            refine ⟨_, rfl, _, _, rfl, rfl, _, rfl, ite2 (fun _ => ?_) (fun _ => ?_)⟩
            · refine ⟨_, rfl, .inl ⟨rfl, _, SqL.of e2⟩, _, rfl, .inl ⟨_, rfl, _, _, rfl, rfl, (by show (0 : Int) < 1000; decide), D, _, _, rfl, rfl, e2, ?_, ?_⟩⟩
              · rw [List.length_map]
                exact big (by omega)
              · refine ⟨_, rfl, _, _, rfl, rfl, ⟨by decide, by decide⟩, ds2 ++ [c2 % 1000], _, _, rfl, Same.lst s2 hD, ?_, ?_⟩
                · rw [upd_same, snoc_ints]
                · rw [List.length_append, List.length_singleton]
                  omega
            · exact ⟨ds2, c2, _, rfl, s2, e2, by omega⟩
          · rintro σ H2 ⟨ds2, c2, y6, rfl, s2, e2, l2⟩
            exact ⟨ds2, _, _, _, _, rfl, s2, e2, by omega⟩
        · refine ⟨_, rfl, _, _, rfl, rfl, .inr (by decide), _, rfl, _, _, rfl, rfl, .inr (by decide), _, _, rfl, rfl, _, _, rfl, rfl, .inl ⟨_, rfl, _, _, rfl, rfl, (by show (0 : Int) < 2147483399; decide), ?_⟩⟩
          refine ⟨_, rfl, by decide, by decide, for_range (lo := 0) (n := 12) (fun j σ H' => ∃ (ds2 : List Int) (c2 : Int) (y6 : Option V), σ = [some (.ref a), some (.int 0), some (.int 63), some (.ref D), some (.int (0 + (i : Nat))), some (.int c), y6, some (.int c2)] ∧ Same H H' ∧ H' D = some (.lst (ds2.map V.int)) ∧ ds2.length ≤ 60 * i + j)
            ⟨ds, _, y6, rfl, s1, e1, l1⟩ ?_ ?_⟩
          · rintro j σ H2 hj ⟨ds2, c2, y6, rfl, s2, e2, l2⟩
            refine ⟨_, rfl, _, _, rfl, rfl, .inr (by decide), _, rfl, _, _, rfl, rfl, .inl (by decide), _, _, rfl, rfl, _, _, rfl, rfl, .inl ⟨_, rfl, _, _, rfl, rfl, (by show (0 : Int) < 2147483563; decide), ?_⟩⟩
            refine ⟨_, rfl, .inl ⟨rfl, _, SqL.of e2⟩, _, rfl, _, _, rfl, rfl, ⟨by decide, by decide⟩, .inl ⟨_, rfl, _, _, rfl, rfl, (by show (0 : Int) < 1000; decide), D, _, _, rfl, rfl, e2, ?_, ?_⟩⟩
            · rw [List.length_map]
              exact big (by omega)
            · refine ⟨ds2 ++ [(c2 * 40014 + 5 * (0 + (j : Nat)) + 3) % 2147483563 / 1009 % 1000], _, _, rfl, Same.lst s2 hD, ?_, ?_⟩
              all_goals try dsimp only
              · rw [upd_same, snoc_ints]
              · rw [List.length_append, List.length_singleton]
                omega
          · rintro σ H2 ⟨ds2, c2, y6, rfl, s2, e2, l2⟩
            exact ⟨ds2, _, _, _, _, rfl, s2, e2, by omega⟩
    · rintro σ H1 ⟨ds, y4, y5, y6, y7, rfl, s1, e1, l1⟩
      exact ⟨_, rfl, q H1 D ds s1 hD e1 (by omega)⟩
end
end K1

set_option maxRecDepth 100000
set_option maxHeartbeats 4000000
namespace K1
open PySem PySem.Spec PyProof.Rows L2 GD
/-! ### the box -/
def Bx (b : Addr) (H H' : Hp) : Prop := ∀ c o, c ≠ b → H c = some o → H' c = some o
theorem Bx.refl (b : Addr) (H : Hp) : Bx b H H := fun _ _ _ h => h
theorem Bx.trans {b : Addr} {H H1 H2 : Hp} (x : Bx b H H1) (y : Bx b H1 H2) : Bx b H H2 := fun c o n h => y c o n (x c o n h)
theorem Bx.same {b : Addr} {H H' : Hp} (s : Same H H') : Bx b H H' := fun c o _ h => s c o h
theorem Box.draw {H : Hp} {b d : Addr} {ds : List Int} {n : Nat} (x : Box H b d ds n) : Box (upd H b (.lst [.ref d, .int ((n + 1 : Nat) : Int)])) b d ds (n + 1) :=
  ⟨upd_same, by rw [upd_ne x.ne]; exact x.2.1, x.2.2⟩
theorem Bx.draw {H : Hp} {b : Addr} {o : HO} : Bx b H (upd H b o) := fun c u n h => by rw [upd_ne n]; exact h
theorem Box.new {H : Hp} {b d l : Addr} {ds : List Int} {n : Nat} {o : HO} (x : Box H b d ds n) (h : H l = none) : Box (upd H l o) b d ds n :=
  ⟨by rw [upd_ne (ne_of_none x.1 h)]; exact x.1, by rw [upd_ne (ne_of_none x.2.1 h)]; exact x.2.1, x.2.2⟩
theorem Bx.new {H : Hp} {b l : Addr} {o : HO} (h : H l = none) : Bx b H (upd H l o) := Bx.same (Same.lst (Same.refl H) h)
theorem Bx.free {b c d : Addr} {H H' : Hp} {ds : List Int} {n : Nat} (x : Bx b H H') (y : Box H b d ds n) (y' : Box H' b d ds n ∨ H' b ≠ none) (h : H' c = none) : H c = none := by
  cases e : H c with
  | none => rfl
  | some o =>
    by_cases z : c = b
    · subst z
      rcases y' with y' | y'
      · rw [y'.1] at h
        cases h
      · exact absurd h y'
    · rw [x c o z e] at h
      cases h

/-- draws and new objects -/
structure Bs (b d : Addr) (ds : List Int) (H H' : Hp) (n : Nat) : Prop where
  bx : Bx b H H'
  box : Box H' b d ds n
  free : ∀ c, H' c = none → H c = none
theorem Bs.refl {b d : Addr} {ds : List Int} {H : Hp} {n : Nat} (h : Box H b d ds n) : Bs b d ds H H n := ⟨Bx.refl _ _, h, fun _ z => z⟩
theorem Bs.draw {b d : Addr} {ds : List Int} {H H' : Hp} {n : Nat} (h : Bs b d ds H H' n) : Bs b d ds H (upd H' b (.lst [.ref d, .int ((n + 1 : Nat) : Int)])) (n + 1) :=
  ⟨h.bx.trans Bx.draw, h.box.draw, fun c z => h.free c (by
    by_cases e : c = b
    · rw [e, upd_same] at z
      cases z
    · rw [upd_ne e] at z
      exact z)⟩
theorem Bs.new {b d l : Addr} {ds : List Int} {H H' : Hp} {n : Nat} {o : HO} (h : Bs b d ds H H' n) (nl : H' l = none) : Bs b d ds H (upd H' l o) n :=
  ⟨h.bx.trans (Bx.new nl), h.box.new nl, fun c z => h.free c (by
    by_cases e : c = l
    · rw [e]
      exact nl
    · rw [upd_ne e] at z
      exact z)⟩
theorem Bs.trans {b d : Addr} {ds : List Int} {H H1 H2 : Hp} {n m : Nat} (x : Bs b d ds H H1 n) (y : Bs b d ds H1 H2 m) : Bs b d ds H H2 m :=
  ⟨x.bx.trans y.bx, y.box, fun c z => x.free c (y.free c z)⟩
theorem Bs.nb {b d l : Addr} {ds : List Int} {H H' : Hp} {n : Nat} (h : Bs b d ds H H' n) (nl : H' l = none) : l ≠ b := fun z => by rw [z, h.box.1] at nl; cases nl
theorem idx {m : Nat} {r : Int} (h0 : 0 ≤ r) (h1 : r < (m : Int)) : ∃ j : Nat, r = (j : Int) ∧ j < m := ⟨r.toNat, by omega, by omega⟩
theorem le9 {n : Nat} (h : n ≤ 100) : n ≤ sizeLine := Nat.le_trans h (by decide)
end K1

set_option maxRecDepth 100000
set_option maxHeartbeats 4000000
/-! OutOfRange, made and raised -/
namespace K5
open PySem hiding Tok code
open PySem.Spec PyProof.Rows GD K1 GS
open L2 hiding rest
abbrev cOOR : Stmt := topS 2
abbrev mOInit : Stmt := inClass cOOR 0
structure FO (P : Program) (w : World) (K : PySem.W.Frag) (mg : Str → Option Value) (base : Heap) (CX : CXT) (k : Nat) (x : Str) (ps : List Str) (sp : L2.Sp) (f : Addr) (fd : FuncData) : Prop where
  m : mg x = some (.ref f)
  kp : PySem.W.keepIn K (.ref f) = true
  b : Binds K fd ps []
  ok : FnOk P w K mg base CX k f fd ps sp
structure MO (P : Program) (w : World) (K : PySem.W.Frag) (mg : Str → Option Value) (base : Heap) (CX : CXT) (k : Nat) (C : Addr) (m : Str) (ps : List Str) (sp : L2.Sp) (f : Addr) (fd : FuncData) : Prop where
  mt : Meth K C m f
  bi : Binds K fd ps []
  ok : FnOk P w K mg base CX k f fd ps sp
/-- what the top has written of OutOfRange -/
structure TxO (K : PySem.W.Frag) (mg : Str → Option Value) (D fI : Addr) : Prop where
  g : mg "OutOfRange" = some (.ref D)
  oc : OexC K D
  ini : PySem.W.findIn K (.ref D) "__init__" = some (some (.ref fI))
  tyI : PySem.W.typeIn K (.ref fI) = some (.type "function")
  noName : PySem.W.findIn K (.ref D) "name" = some none
  xf : XfC K D
  eO : PySem.W.exmOne K (.ref D) (.ref D) = some true
theorem szle {n : Nat} (h : n ≤ 5000) : n ≤ sizeLine := Nat.le_trans h (by decide)
theorem szlt {n : Nat} (h : n ≤ 5000) : n < sizeLine := Nat.lt_of_le_of_lt h (by decide)
theorem sfree {H H' : Hp} {p : Addr} (s : Same H H') (n : H' p = none) : H p = none := by
  cases e : H p with
  | none => rfl
  | some o => rw [s p o e] at n; cases n
theorem strans {H H1 H2 : Hp} (a : Same H H1) (b : Same H1 H2) : Same H H2 := fun p o e => b p o (a p o e)
theorem snew {H H1 : Hp} {D : Addr} {o : HO} (s : Same H H1) (n : H1 D = none) : Same H (upd H1 D o) := strans s (Same.lst (Same.refl H1) n)
theorem pe_gstr {X : Cx} {x z : Str} {t : PySem.Tok} {pos : Pos} (hg : Gl X x) (hm : X.mg x = some (.str z t)) (hd : (x == ("__debug__" : Str)) = false := by decide) : PE X (.Name x pos) (tC (.str z)) := pe_glob hg hm ⟨_, rfl⟩ hd
theorem pe_gint {X : Cx} {x : Str} {i : Int} {t : PySem.Tok} {pos : Pos} (hg : Gl X x) (hm : X.mg x = some (.int i t)) (hd : (x == ("__debug__" : Str)) = false := by decide) : PE X (.Name x pos) (tC (.int i)) := pe_glob hg hm ⟨_, rfl⟩ hd
def rLenK (K : PySem.W.Frag) : List V → Hp → VK → Prop := fun xs H Q => ∃ p ys, xs = [.ref p] ∧ (SqL K H p ys ∨ SqT K H p ys) ∧ Q (.int ys.length) H
theorem call_lenK {X : Cx} : CallR X (.builtin "len") (rLenK X.K) := call_len_seq
section
variable {P : Program} {w : World} {K : PySem.W.Frag} {mg : Str → Option Value} {base : Heap} {D fI cc cda : Addr}
/-- an error of that class that names z, ahead of heap H -/
def OErr (E : XK) (D : Addr) (H : Hp) (z : Str) : Prop := ∀ d H', Same H H' → H d = none → H' d = some (.xd [("name", .str z)]) → E (.ref D) (some d) H'
def spOInit (D : Addr) : L2.Sp := fun vs H Q _ => ∃ (a : Addr) (z : Str), vs = [.ref a, .str z] ∧ H a = some (exo a D none) ∧ z.length ≤ 100 ∧
  ∀ dx, H dx = none → dx ≠ a → Q .non (upd (upd H dx (exd dx [("name", .str z)])) a (exo a D (some dx)))
theorem nsOInit : NdefX.NScope ["self", "name", "__class__"] ["self", "name"] ["__class__"] (defScope mOInit) := NdefX.nscope_by (by decide +kernel)
theorem ok_oinit (T : SupK P K mg "__init__" "OutOfRange.__init__" mOInit fI cc cda D) (noName : PySem.W.findIn K (.ref D) "name" = some none) :
    ∃ fd, Binds K fd ["self", "name"] [] ∧ FnOk P w K mg base CX0 1 fI fd ["self", "name"] (spOInit D) := by
  refine ok_super (CX := CX0) (k := 0) (sp := spOInit D) (N := ["self", "name", "__class__"]) T nsOInit rfl (by decide +kernel) rfl rfl (fun _ => rfl) (fun _ _ => rfl) (fun _ => rfl) (fun _ => rfl) (fun kV doc pm an ct => .all fun us hl => match us, hl with | [_, _], _ => rfl) (fun vs H Q E h => ?_) (fun A outer s H vs Q E hr h => ?_)
  · obtain ⟨a, z, rfl, _⟩ := h
    rfl
  · obtain ⟨a, z, rfl, ha, hz, q⟩ := h
    refine ⟨a, _, _, _, rfl, ha, pa_cons (pe_joined (PJ.cons (pe_fmt (pv 1)) (PJ.cons pe_str PJ.nil))) pa_nil, pss_one (ps_ost (pv 0) (pv 1)), ?_⟩
    refine ⟨_, rfl, .inl ⟨_, rfl, szle (by omega), _, rfl, ?_, _, rfl, ?_, ?_⟩⟩
    · rw [← S_of z, show Str.empty = S [] from rfl, S_app, S_len]
      have : z.cps.toList.length = z.length := by rw [← S_len, S_of]
      exact szle (by rw [List.nil_append]; omega)
    · rw [← S_of z, show Str.empty = S [] from rfl, S_app, show (Str.ofString " is out of range") = S (Str.ofString " is out of range").cps.toList from (S_of _).symm, S_app, S_len, List.length_append, List.nil_append]
      have : z.cps.toList.length = z.length := by rw [← S_len, S_of]
      have e : (Str.ofString " is out of range").cps.toList.length = 16 := by decide +kernel
      exact szle (by omega)
    refine ⟨(by show 1 ≤ 1000; decide), ha, ?_⟩
    exact ⟨_, rfl, _, rfl, a, D, rfl, T.cls, noName, .inl ⟨ha, q⟩⟩
end
end K5

set_option maxRecDepth 100000
set_option maxHeartbeats 4000000
/-! disks: what lies where -/
namespace K5
open PySem hiding Tok code
open PySem.Spec PyProof.Rows GD K1 GS
open L2 hiding rest
abbrev cDisk : Stmt := topS 10
abbrev mDInit : Stmt := inClass cDisk 0
abbrev mSize : Stmt := inClass cDisk 1
abbrev mRead : Stmt := inClass cDisk 2
abbrev mWrite : Stmt := inClass cDisk 3
abbrev mFlush : Stmt := inClass cDisk 4
abbrev mPend : Stmt := inClass cDisk 5
abbrev mCuts : Stmt := inClass cDisk 6
abbrev mCut : Stmt := inClass cDisk 7
abbrev mSched : Stmt := inClass cDisk 8
abbrev mIndex : Stmt := inClass cDisk 9
abbrev mCount : Stmt := inClass cDisk 10
abbrev sTornC : Stmt := topS 11
def iv (l : List Int) : List V := l.map V.int
theorem iv_app (a b : List Int) : iv a ++ iv b = iv (a ++ b) := (List.map_append).symm
theorem iv_len (l : List Int) : (iv l).length = l.length := List.length_map _
theorem iv_snoc (l : List Int) (x : Int) : iv l ++ [V.int x] = iv (l ++ [x]) := by
  unfold iv
  rw [List.map_append]
  rfl
theorem iv_get {l : List Int} {i : Nat} {x : Int} (h : l[i]? = some x) : (iv l)[i]? = some (.int x) := by
  unfold iv
  rw [List.getElem?_map, h]
  rfl
theorem rep_flat (n : Nat) (x : V) : (List.replicate n [x]).flatten = List.replicate n x := by
  induction n with
  | zero => rfl
  | succ n ih => rw [List.replicate_succ, List.replicate_succ, List.flatten_cons, ih]; rfl
theorem rep_iv (n : Nat) (x : Int) : List.replicate n (V.int x) = iv (List.replicate n x) := by
  unfold iv
  rw [List.map_replicate]
theorem iteE {c : Bool} {A B : Prop} (h : c = false) (x : B) : if c = true then A else B := by
  rw [h]
  exact iteF x
theorem iteY {c : Bool} {A B : Prop} (h : c = true) (x : A) : if c = true then A else B := by
  rw [h]
  exact iteT x
/-- a disk: its blocks, the writes that wait, how often it was cut, what is scheduled -/
structure DS where
  st : List (List Int)
  wa : List (Nat × List Int)
  cuts : Nat
  sc : Option (Nat × List Int)
def dF (S W : Addr) (cuts : Nat) (v : V) : List (Str × V) := [("stored", .ref S), ("waiting", .ref W), ("cuts", .int cuts), ("scheduled", v)]
def BkR (Z : Addr → Prop) (H : Hp) : V → List Int → Prop := fun v b => ∃ q, v = .ref q ∧ Z q ∧ H q = some (.lst (iv b)) ∧ b.length = 32
def WtR (Z : Addr → Prop) (H : Hp) : V → Nat × List Int → Prop := fun v e => ∃ t q, v = .ref t ∧ Z t ∧ H t = some (.tup [.int (e.1 : Nat), .ref q]) ∧ Z q ∧ H q = some (.lst (iv e.2)) ∧ e.2.length = 32
def ScR (Z : Addr → Prop) (H : Hp) (S W : Addr) : V → Option (Nat × List Int) → Prop
  | v, none => v = .non
  | v, some (m, t) => ∃ t1 t2, v = .ref t1 ∧ Z t1 ∧ H t1 = some (.tup [.int (m : Nat), .ref t2]) ∧ Z t2 ∧ t2 ≠ S ∧ t2 ≠ W ∧ H t2 = some (.lst (iv t)) ∧ ∀ x ∈ t, 0 ≤ x ∧ x ≤ 32
structure DA (C : Addr) (Z : Addr → Prop) (H : Hp) (p : Addr) (s : DS) : Prop where
  ex : ∃ dx S W v vs us, H p = some (.ins C dx (dF S W s.cuts v)) ∧ H dx = some (.own p) ∧ H S = some (.lst vs) ∧ Paired (BkR Z H) vs s.st ∧ H W = some (.lst us) ∧ Paired (WtR Z H) us s.wa ∧ ScR Z H S W v s.sc ∧ Z p ∧ Z dx ∧ Z S ∧ Z W ∧ S ≠ W
  lo : 8 ≤ s.st.length
  hi : s.st.length ≤ 400
  pl : ∀ e ∈ s.wa, e.1 < s.st.length
  al : ∀ q, Z q → H q ≠ none
/-- what a method leaves of what is not the disk's -/
def Kz (Z : Addr → Prop) (H H' : Hp) : Prop := ∀ q o, ¬ Z q → H q = some o → H' q = some o
/-- what is the disk's behind it -/
def grow (Z : Addr → Prop) (H H' : Hp) : Addr → Prop := fun q => (Z q ∨ H q = none) ∧ H' q ≠ none
theorem pair_imp {α β : Type} {R R' : α → β → Prop} {l : List α} {m : List β} (h : Paired R l m) (k : ∀ a b, R a b → R' a b) : Paired R' l m := by
  induction h with
  | nil => exact .nil
  | cons a _ ih => exact .cons (k _ _ a) ih
theorem pair_len {α β : Type} {R : α → β → Prop} {l : List α} {m : List β} (h : Paired R l m) : l.length = m.length := by
  induction h with
  | nil => rfl
  | cons _ _ ih => rw [List.length_cons, List.length_cons, ih]
theorem pair_snoc {α β : Type} {R : α → β → Prop} {l : List α} {m : List β} {a : α} {b : β} (h : Paired R l m) (k : R a b) : Paired R (l ++ [a]) (m ++ [b]) := by
  induction h with
  | nil => exact .cons k .nil
  | cons a _ ih => exact .cons a ih
theorem pair_get {α β : Type} {R : α → β → Prop} {l : List α} {m : List β} (h : Paired R l m) {i : Nat} {b : β} (e : m[i]? = some b) : ∃ a, l[i]? = some a ∧ R a b := by
  induction h generalizing i with
  | nil => simp at e
  | cons a _ ih =>
    cases i with
    | zero =>
      rw [List.getElem?_cons_zero] at e ⊢
      cases e
      exact ⟨_, rfl, a⟩
    | succ i =>
      rw [List.getElem?_cons_succ] at e ⊢
      exact ih e
theorem pair_set {α β : Type} {R : α → β → Prop} {l : List α} {m : List β} {a : α} {b : β} (h : Paired R l m) (i : Nat) (k : R a b) : Paired R (l.set i a) (m.set i b) := by
  induction h generalizing i with
  | nil => exact .nil
  | cons c r ih =>
    cases i with
    | zero => exact .cons k r
    | succ i => exact .cons c (ih i)
theorem pair_get1 {α β : Type} {R : α → β → Prop} {l : List α} {m : List β} (h : Paired R l m) {i : Nat} {a : α} (e : l[i]? = some a) : ∃ b, m[i]? = some b ∧ R a b := by
  induction h generalizing i with
  | nil => simp at e
  | cons a _ ih =>
    cases i with
    | zero =>
      rw [List.getElem?_cons_zero] at e ⊢
      cases e
      exact ⟨_, rfl, a⟩
    | succ i =>
      rw [List.getElem?_cons_succ] at e ⊢
      exact ih e
/-- the blocks stay where their places do -/
theorem BkR.up {Z Z' : Addr → Prop} {H H' : Hp} (k : ∀ q b, Z q → b.length = 32 → H q = some (.lst (iv b)) → Z' q ∧ H' q = some (.lst (iv b))) {v : V} {b : List Int} (h : BkR Z H v b) : BkR Z' H' v b := by
  obtain ⟨q, e, z, h, l⟩ := h
  obtain ⟨z', h'⟩ := k q b z l h
  exact ⟨q, e, z', h', l⟩
theorem WtR.up {Z Z' : Addr → Prop} {H H' : Hp} (k : ∀ q b, Z q → b.length = 32 → H q = some (.lst (iv b)) → Z' q ∧ H' q = some (.lst (iv b))) (kt : ∀ q xs, Z q → H q = some (.tup xs) → Z' q ∧ H' q = some (.tup xs)) {v : V} {e : Nat × List Int} (h : WtR Z H v e) : WtR Z' H' v e := by
  obtain ⟨t, q, e1, z1, h1, z2, h2, l⟩ := h
  obtain ⟨y1, g1⟩ := kt t _ z1 h1
  obtain ⟨y2, g2⟩ := k q _ z2 l h2
  exact ⟨t, q, e1, y1, g1, y2, g2, l⟩
/-- a disk where nothing of it has changed -/
theorem DA.same {C : Addr} {Z : Addr → Prop} {H H' : Hp} {p : Addr} {s : DS} (h : DA C Z H p s) (k : ∀ q o, Z q → H q = some o → H' q = some o) : DA C Z H' p s := by
  obtain ⟨dx, S, W, v, vs, us, h1, h2, h3, h4, h5, h6, h7, z1, z2, z3, z4, n⟩ := h.ex
  refine ⟨⟨dx, S, W, v, vs, us, k _ _ z1 h1, k _ _ z2 h2, k _ _ z3 h3, pair_imp h4 fun a b => BkR.up fun q b z _ e => ⟨z, k _ _ z e⟩, k _ _ z4 h5, pair_imp h6 fun a b => WtR.up (fun q b z _ e => ⟨z, k _ _ z e⟩) (fun q xs z e => ⟨z, k _ _ z e⟩), ?_, z1, z2, z3, z4, n⟩, h.lo, h.hi, h.pl, fun q z e => ?_⟩
  · revert h7
    cases s.sc with
    | none => exact fun z => z
    | some x =>
      obtain ⟨m, t⟩ := x
      exact fun ⟨t1, t2, e, y1, g1, y2, n1, n2, g2, b⟩ => ⟨t1, t2, e, y1, k _ _ y1 g1, y2, n1, n2, k _ _ y2 g2, b⟩
  · cases e1 : H q with
    | none => exact h.al q z e1
    | some o => rw [k q o z e1] at e; cases e
theorem DA.sm {C : Addr} {Z : Addr → Prop} {H H' : Hp} {p : Addr} {s : DS} (h : DA C Z H p s) (k : Same H H') : DA C Z H' p s := h.same fun q o _ e => k q o e
theorem iv_refs {b : List Int} {us : List V} (hb : b.length = 32) (hu : ∀ u ∈ us, ∃ r, u = V.ref r) : iv b ≠ us := fun e => by
  match b, hb with
  | x :: r, _ =>
    obtain ⟨r', e'⟩ := hu (.int x) (by rw [← e]; exact List.mem_cons_self)
    cases e'
theorem bk_refs {Z : Addr → Prop} {H : Hp} {vs : List V} {bs : List (List Int)} (h : Paired (BkR Z H) vs bs) : ∀ u ∈ vs, ∃ r, u = V.ref r := by
  induction h with
  | nil => intro u hu; cases hu
  | cons a _ ih =>
    intro u hu
    rcases List.mem_cons.mp hu with rfl | hu
    · obtain ⟨q, e, _⟩ := a
      exact ⟨q, e⟩
    · exact ih u hu
theorem wt_refs {Z : Addr → Prop} {H : Hp} {vs : List V} {bs : List (Nat × List Int)} (h : Paired (WtR Z H) vs bs) : ∀ u ∈ vs, ∃ r, u = V.ref r := by
  induction h with
  | nil => intro u hu; cases hu
  | cons a _ ih =>
    intro u hu
    rcases List.mem_cons.mp hu with rfl | hu
    · obtain ⟨q, _, e, _⟩ := a
      exact ⟨q, e⟩
    · exact ih u hu
/-- a block lies elsewhere than a list of places -/
theorem blk_ne {H : Hp} {q S : Addr} {b : List Int} {us : List V} (h : H q = some (.lst (iv b))) (hb : b.length = 32) (hS : H S = some (.lst us)) (hu : ∀ u ∈ us, ∃ r, u = V.ref r) : q ≠ S := fun z => by
  rw [z, hS] at h
  injection h with h
  injection h with h
  exact iv_refs hb hu h.symm
/-- what the top has written of Disk -/
structure TxD (K : PySem.W.Frag) (mg : Str → Option Value) (C : Addr) : Prop where
  cl : Cls K C
  n1 : NoAttr K C "stored"
  n2 : NoAttr K C "waiting"
  n3 : NoAttr K C "cuts"
  n4 : NoAttr K C "scheduled"
  g : mg "Disk" = some (.ref C)
  BLOCK : ∃ t, mg "BLOCK" = some (.int 32 t)
  LEAST : ∃ t, mg "BLOCKS_LEAST" = some (.int 8 t)
  MOST : ∃ t, mg "BLOCKS_MOST" = some (.int 400 t)
  BYTE : ∃ t, mg "BYTE_MOST" = some (.int 255 t)
/-- more of what the top leaves to the built-ins -/
structure Txt3 (mg : Str → Option Value) : Prop where
  all : mg "all" = none
  enumerate : mg "enumerate" = none
theorem dF_S {S W : Addr} {n : Nat} {v : V} : (dF S W n v).lookup ("stored" : Str) = some (.ref S) := rfl
theorem dF_W {S W : Addr} {n : Nat} {v : V} : (dF S W n v).lookup ("waiting" : Str) = some (.ref W) := by
  unfold dF
  simp [List.lookup, show (("waiting" : Str) == "stored") = false by decide +kernel]
theorem dF_c {S W : Addr} {n : Nat} {v : V} : (dF S W n v).lookup ("cuts" : Str) = some (.int n) := by
  unfold dF
  simp [List.lookup, show (("cuts" : Str) == "stored") = false by decide +kernel, show (("cuts" : Str) == "waiting") = false by decide +kernel]
theorem dF_s {S W : Addr} {n : Nat} {v : V} : (dF S W n v).lookup ("scheduled" : Str) = some v := by
  unfold dF
  simp [List.lookup, show (("scheduled" : Str) == "stored") = false by decide +kernel, show (("scheduled" : Str) == "waiting") = false by decide +kernel, show (("scheduled" : Str) == "cuts") = false by decide +kernel]
theorem dF_no {S W : Addr} {n : Nat} {v : V} {f : Str} (h : ([("stored" : Str), "waiting", "cuts", "scheduled"] : List Str).all (fun g : Str => !(f == g)) = true) : (dF S W n v).lookup f = none := by
  unfold dF
  simp only [List.all_cons, List.all_nil, Bool.and_true, Bool.and_eq_true, Bool.not_eq_true'] at h
  obtain ⟨a, b, c, d⟩ := h
  simp [List.lookup, a, b, c, d]
theorem putF_W {S W W' : Addr} {n : Nat} {v : V} : putF "waiting" (.ref W') (dF S W n v) = dF S W' n v := by
  unfold dF
  simp [putF, show ¬ (("stored" : Str) = "waiting") by decide +kernel]
theorem putF_c {S W : Addr} {n m : Nat} {v : V} : putF "cuts" (.int m) (dF S W n v) = dF S W m v := by
  unfold dF
  simp [putF, show ¬ (("stored" : Str) = "cuts") by decide +kernel, show ¬ (("waiting" : Str) = "cuts") by decide +kernel]
theorem putF_s {S W : Addr} {n : Nat} {v v' : V} : putF "scheduled" v' (dF S W n v) = dF S W n v' := by
  unfold dF
  simp [putF, show ¬ (("stored" : Str) = "scheduled") by decide +kernel, show ¬ (("waiting" : Str) = "scheduled") by decide +kernel, show ¬ (("cuts" : Str) = "scheduled") by decide +kernel]
end K5

set_option maxRecDepth 100000
set_option maxHeartbeats 4000000
/-! check_torn, check_index, the readings -/
namespace K5
open PySem hiding Tok code
open PySem.Spec PyProof.Rows GD K1 GS
open L2 hiding rest
section
variable {P : Program} {w : World} {K : PySem.W.Frag} {mg : Str → Option Value} {base : Heap} {D fI C : Addr}
theorem passE {N : List Str} {q : Str} {sc : Scope} {f : Addr} {cdv : Value} {A : Around} {outer : List Env} {s : Shared} {H : Hp} {E : XK} :
    Passes (L2.CX P w) (cxOf (L2.CX P w) P w K mg base N q sc f cdv A outer s H E) E := fun pins σ H' s1 e s2 I c =>
  passAt (X := cxOf (L2.CX P w) P w K mg base N q sc f cdv A outer s H E) (W := fun cls d _ H => E cls d H) (takes_of rfl rfl rfl rfl) σ pins H' s1 e s2 I c
theorem oor_k {E : XK} {H H1 : Hp} {z : Str} (s : Same H H1) (hz : z.length ≤ 100) (h : OErr E D H z) :
    ([V.str z]).length ≤ 1000 ∧ ∀ a, H1 a = none → spOInit D (.ref a :: ([V.str z] ++ [])) (upd H1 a (exo a D none))
      (fun v H2 => v = .non ∧ ∃ (d : Addr) (fs : List (Str × V)), H2 a = some (exo a D (some d)) ∧ H2 d = some (exd d fs) ∧ H1 d = none ∧ E (.ref D) (some d) (upd (del H2 a) d (.xd fs))) (fun _ _ _ => False) := by
  refine ⟨by show 1 ≤ 1000; decide, fun a na => ⟨a, z, rfl, upd_same, hz, fun dx ndx nea => ⟨rfl, dx, [(Str.ofString "name", V.str z)], upd_same, ?_, ?_, ?_⟩⟩⟩
  · rw [upd_ne nea, upd_same]
  · rw [upd_ne nea] at ndx
    exact ndx
  · rw [upd_ne nea] at ndx
    refine h dx _ (fun q o e => ?_) (sfree s ndx) upd_same
    have e1 := s q o e
    have n1 : q ≠ dx := fun z => by rw [z, ndx] at e1; cases e1
    have n2 : q ≠ a := fun z => by rw [z, na] at e1; cases e1
    rw [upd_ne n1]
    unfold del
    rw [if_neg n2, upd_ne n2, upd_ne n1, upd_ne n2]
    exact e1
def okc (x : Int) : Bool := decide (0 ≤ x) && decide (x ≤ 32)
def okT (tn : List Int) : Bool := tn.all okc
def spTornC (D : Addr) : L2.Sp := fun vs H Q E => ∃ (t : Addr) (tn : List Int), vs = [.ref t] ∧ H t = some (.lst (iv tn)) ∧ tn.length ≤ 1000 ∧ (okT tn = true → ∀ H', Same H H' → Q .non H') ∧ (okT tn = false → OErr E D H "torn")
theorem scTornC : FnScope ["torn", "many"] ["torn"] (defScope sTornC) := ⟨rfl, rfl, rfl, by decide +kernel, rfl, by decide +kernel, by decide +kernel⟩
theorem ok_tornC {f : Addr} {fd fdI : FuncData} (F : Fun K "check_torn" "check_torn" sTornC f fd) (T : Txt K mg) (TD : TxD K mg C) (T3 : Txt3 mg) (TO : TxO K mg D fI)
    (bI : Binds K fdI ["self", "name"] []) (FI : FnOk P w K mg base CX0 1 fI fdI ["self", "name"] (spOInit D)) : FnOk P w K mg base (L2.CX P w) 3 f fd ["torn"] (spTornC D) := by
  have sc := scTornC
  obtain ⟨t1, gBLOCK⟩ := TD.BLOCK
  refine F.okX sc (fun vs H Q E h => ?_) (fun cdv A outer s H vs Q E hr h => ?_)
  · obtain ⟨t, tn, rfl, _⟩ := h
    rfl
  · obtain ⟨t, tn, rfl, ht, hl, q1, q2⟩ := h
    have hr1 := hr
    refine ⟨_, (pss_one (ps_if (pt_not (pt_val (pe_callB (cr_all rfl) (by rfl) T3.all (by decide +kernel) (pa_cons (pe_lc (own := [("many", 1)]) rfl sc.nd (pi_list (pv 0)) (blkOk_by (own := [("many", 1)]) (N := ["torn", "many"]) (sc := defScope sTornC) (by decide +kernel)) (fun _ _ _ _ _ => (pg_name (i := 1) sc.nd rfl (Or.inl rfl))) (fun _ _ _ _ _ => pts_nil) (fun _ _ _ _ _ => (pe_chain op_le op_le pe_int (pv 1) (pe_gint rfl gBLOCK)))) pa_nil))))
      (pss_one (ps_raise rfl (takes_of rfl rfl rfl rfl) (pmk_oex TO.oc TO.ini TO.tyI FI hr1 bI .nil pass0 rfl TO.g (pa_cons pe_str pa_nil))))
      pss_nil)), ?_⟩
    refine ⟨_, rfl, t, rfl, ⟨_, SqL.of ht⟩, fun l nl => ?_⟩
    refine lc_it (walk_list (K := K) (a := t) (xs := iv tn)) (fun j H' => Same H H' ∧ H' l = some (.lst (((tn.take j).map okc).map V.bl))) ⟨Same.lst (Same.refl _) nl, upd_same⟩ (fun i H' _ pv => SqL.of (pv.1 _ _ ht)) (fun j x H2 H3 hj pv y => ?_) (fun H2 pv => ?_)
    · obtain ⟨rfl, hx⟩ := y
      unfold iv at hx
      rw [List.getElem?_map, Option.map_eq_some_iff] at hx
      obtain ⟨i, hi, rfl⟩ := hx
      refine ⟨rfl, ?_⟩
      have fin : ∀ b, okc i = b → ∃ acc : List V, H3 l = some (.lst acc) ∧ acc.length < sizeLine ∧ Same H (upd H3 l (.lst (acc ++ [V.bl b]))) ∧ (upd H3 l (.lst (acc ++ [V.bl b]))) l = some (.lst (((tn.take (j + 1)).map okc).map V.bl)) := fun b e => by
        refine ⟨_, pv.2, ?_, Same.lst pv.1 nl, ?_⟩
        · rw [List.length_map, List.length_map, List.length_take]
          exact szlt (by omega)
        · rw [upd_same, List.take_add_one, hi, ← e, List.map_append, List.map_append]
          rfl
      refine ⟨_, rfl, _, _, rfl, rfl, _, rfl, ?_⟩
      cases h0 : decide ((0 : Int) ≤ i) with
      | false => exact iteF (fin _ (by unfold okc; rw [h0]; rfl))
      | true => exact iteT ⟨_, _, rfl, rfl, (fin _ (by unfold okc; rw [h0]; rfl))⟩
    have lv : (iv tn).length = tn.length := List.length_map _
    rw [lv, List.take_length] at pv
    obtain ⟨s2, el⟩ := pv
    refine ⟨l, tn.map okc, rfl, SqL.of el, _, rfl, ?_⟩
    have ea : (tn.map okc).all id = okT tn := by
      rw [List.all_map]
      rfl
    rw [ea]
    cases ho : okT tn with
    | true => exact iteF (q1 ho _ s2)
    | false => exact iteT (oor_k s2 (by decide +kernel) (q2 ho))
def spIndex (C D : Addr) : L2.Sp := fun vs H Q E => ∃ (Z : Addr → Prop) (p : Addr) (s : DS) (i : Int), vs = [.ref p, .int i] ∧ DA C Z H p s ∧ (0 ≤ i → i < s.st.length → Q .non H) ∧ (i < 0 ∨ (s.st.length : Int) ≤ i → OErr E D H "at")
theorem scIndex : FnScope ["self", "at"] ["self", "at"] (defScope mIndex) := ⟨rfl, rfl, rfl, by decide +kernel, rfl, by decide +kernel, by decide +kernel⟩
theorem ok_index {f : Addr} {fd fdI : FuncData} (F : Fun K "check_index" "Disk.check_index" mIndex f fd) (T : Txt K mg) (TD : TxD K mg C) (TO : TxO K mg D fI)
    (bI : Binds K fdI ["self", "name"] []) (FI : FnOk P w K mg base CX0 1 fI fdI ["self", "name"] (spOInit D)) : FnOk P w K mg base (L2.CX P w) 3 f fd ["self", "at"] (spIndex C D) := by
  have sc := scIndex
  refine F.okX sc (fun vs H Q E h => ?_) (fun cdv A outer s H vs Q E hr h => ?_)
  · obtain ⟨Z, p, ds, i, rfl, _⟩ := h
    rfl
  · obtain ⟨Z, p, ds, i, rfl, da, q1, q2⟩ := h
    obtain ⟨dx, S, W, v, vs, us, h1, h2, h3, h4, h5, h6, h7, z1, z2, z3, z4, n⟩ := da.ex
    have hr1 := hr
    refine ⟨_, (pss_one (ps_if (pt_not (pt_chain op_le op_lt pe_int (pv 1) (pe_callB call_len_seq (by rfl) T.len (by decide +kernel) (pa_cons (pe_fld (pv 0) rfl) pa_nil))))
      (pss_one (ps_raise rfl (takes_of rfl rfl rfl rfl) (pmk_oex TO.oc TO.ini TO.tyI FI hr1 bI .nil pass0 rfl TO.g (pa_cons pe_str pa_nil))))
      pss_nil)), ?_⟩
    refine ⟨_, rfl, _, _, rfl, rfl, _, rfl, ?_⟩
    cases e0 : decide ((0 : Int) ≤ i) with
    | false => exact iteF ⟨_, rfl, iteT (oor_k (Same.refl H) (by decide +kernel) (q2 (.inl (by have := of_decide_eq_false e0; omega))))⟩
    | true =>
      refine iteT ⟨_, rfl, p, C, dx, _, _, rfl, h1, TD.cl, TD.n1, dF_S, S, _, rfl, .inl (SqL.of h3), _, _, rfl, rfl, _, rfl, ?_⟩
      rw [pair_len h4]
      cases e1 : decide (i < (ds.st.length : Int)) with
      | false => exact iteT (oor_k (Same.refl H) (by decide +kernel) (q2 (.inr (by have := of_decide_eq_false e1; omega))))
      | true => exact iteF (q1 (of_decide_eq_true e0) (of_decide_eq_true e1))
def spSize (C : Addr) : L2.Sp := fun vs H Q _ => ∃ (Z : Addr → Prop) (p : Addr) (s : DS), vs = [.ref p] ∧ DA C Z H p s ∧ Q (.int (s.st.length : Nat)) H
theorem scSize : FnScope ["self"] ["self"] (defScope mSize) := ⟨rfl, rfl, rfl, by decide +kernel, rfl, by decide +kernel, by decide +kernel⟩
theorem ok_size {f : Addr} {fd : FuncData} (F : Fun K "size" "Disk.size" mSize f fd) (T : Txt K mg) (TD : TxD K mg C) : FnOk P w K mg base CX0 1 f fd ["self"] (spSize C) := by
  have sc := scSize
  refine F.ok sc (fun vs H Q E h => ?_) (fun cdv A outer s H vs Q E hr h => ?_)
  · obtain ⟨Z, p, ds, rfl, _⟩ := h
    rfl
  · obtain ⟨Z, p, ds, rfl, da, q⟩ := h
    obtain ⟨dx, S, W, v, vs, us, h1, h2, h3, h4, h5, h6, h7, z1, z2, z3, z4, n⟩ := da.ex
    refine ⟨_, (pss_one (ps_ret (pe_callB call_len_seq (by rfl) T.len (by decide +kernel) (pa_cons (pe_fld (pv 0) rfl) pa_nil)))), ?_⟩
    refine ⟨_, rfl, p, C, dx, _, _, rfl, h1, TD.cl, TD.n1, dF_S, S, _, rfl, .inl (SqL.of h3), ?_⟩
    rw [pair_len h4]
    exact q
def spPend (C : Addr) : L2.Sp := fun vs H Q _ => ∃ (Z : Addr → Prop) (p : Addr) (s : DS), vs = [.ref p] ∧ DA C Z H p s ∧ Q (.int (s.wa.length : Nat)) H
theorem scPend : FnScope ["self"] ["self"] (defScope mPend) := ⟨rfl, rfl, rfl, by decide +kernel, rfl, by decide +kernel, by decide +kernel⟩
theorem ok_pend {f : Addr} {fd : FuncData} (F : Fun K "pending_count" "Disk.pending_count" mPend f fd) (T : Txt K mg) (TD : TxD K mg C) : FnOk P w K mg base CX0 1 f fd ["self"] (spPend C) := by
  have sc := scPend
  refine F.ok sc (fun vs H Q E h => ?_) (fun cdv A outer s H vs Q E hr h => ?_)
  · obtain ⟨Z, p, ds, rfl, _⟩ := h
    rfl
  · obtain ⟨Z, p, ds, rfl, da, q⟩ := h
    obtain ⟨dx, S, W, v, vs, us, h1, h2, h3, h4, h5, h6, h7, z1, z2, z3, z4, n⟩ := da.ex
    refine ⟨_, (pss_one (ps_ret (pe_callB call_len_seq (by rfl) T.len (by decide +kernel) (pa_cons (pe_fld (pv 0) rfl) pa_nil)))), ?_⟩
    refine ⟨_, rfl, p, C, dx, _, _, rfl, h1, TD.cl, TD.n2, dF_W, W, _, rfl, .inl (SqL.of h5), ?_⟩
    rw [pair_len h6]
    exact q
def spCuts (C : Addr) : L2.Sp := fun vs H Q _ => ∃ (Z : Addr → Prop) (p : Addr) (s : DS), vs = [.ref p] ∧ DA C Z H p s ∧ Q (.int (s.cuts : Nat)) H
theorem scCuts : FnScope ["self"] ["self"] (defScope mCuts) := ⟨rfl, rfl, rfl, by decide +kernel, rfl, by decide +kernel, by decide +kernel⟩
theorem ok_cuts {f : Addr} {fd : FuncData} (F : Fun K "cut_count" "Disk.cut_count" mCuts f fd) (T : Txt K mg) (TD : TxD K mg C) : FnOk P w K mg base CX0 1 f fd ["self"] (spCuts C) := by
  have sc := scCuts
  refine F.ok sc (fun vs H Q E h => ?_) (fun cdv A outer s H vs Q E hr h => ?_)
  · obtain ⟨Z, p, ds, rfl, _⟩ := h
    rfl
  · obtain ⟨Z, p, ds, rfl, da, q⟩ := h
    obtain ⟨dx, S, W, v, vs, us, h1, h2, h3, h4, h5, h6, h7, z1, z2, z3, z4, n⟩ := da.ex
    refine ⟨_, (pss_one (ps_ret (pe_fld (pv 0) rfl))), ?_⟩
    exact ⟨_, rfl, p, C, dx, _, _, rfl, h1, TD.cl, TD.n3, dF_c, q⟩
def rdM (s : DS) (n : Nat) : List Int := s.wa.foldl (fun f e => if e.1 = n then e.2 else f) (s.st.getD n [])
def spRead (C D : Addr) : L2.Sp := fun vs H Q E => ∃ (Z : Addr → Prop) (p : Addr) (s : DS) (i : Int), vs = [.ref p, .int i] ∧ DA C Z H p s ∧
  (∀ n : Nat, i = n → n < s.st.length → ∀ H' q, Same H H' → H q = none → H' q = some (.lst (iv (rdM s n))) → Q (.ref q) H') ∧ (i < 0 ∨ (s.st.length : Int) ≤ i → OErr E D H "at")
theorem scRead : FnScope ["self", "at", "block", "place", "written"] ["self", "at"] (defScope mRead) := ⟨rfl, rfl, rfl, by decide +kernel, rfl, by decide +kernel, by decide +kernel⟩
theorem ok_read {f f1 : Addr} {fd fd1 : FuncData} (F : Fun K "read" "Disk.read" mRead f fd) (T : Txt K mg) (TD : TxD K mg C)
    (MI : MO P w K mg base (L2.CX P w) 3 C "check_index" ["self", "at"] (spIndex C D) f1 fd1) : FnOk P w K mg base (L2.CX P w) 4 f fd ["self", "at"] (spRead C D) := by
  have sc := scRead
  refine F.okX sc (fun vs H Q E h => ?_) (fun cdv A outer s H vs Q E hr h => ?_)
  · obtain ⟨Z, p, ds, i, rfl, _⟩ := h
    rfl
  · obtain ⟨Z, p, ds, i, rfl, da, q1, q2⟩ := h
    obtain ⟨dx, S, W, v, vs, us, h1, h2, h3, h4, h5, h6, h7, z1, z2, z3, z4, n⟩ := da.ex
    refine ⟨_, (pss_cons (ps_expr (pe_meth (pv 0) TD.cl MI.mt MI.ok hr MI.bi .nil passE (pa_cons (pv 1) pa_nil)))
      (pss_cons (ps_set (i := 2) sc.nd rfl (Or.inl rfl) (pe_ix ix_list (pe_fld (pv 0) rfl) (pv 1) (fun _ _ => rfl)))
      (pss_cons (ps_for (passes_of rfl) rfl (pi_list (pe_fld (pv 0) rfl)) (pg_tup rfl (pgs_cons (pg_name (i := 3) sc.nd rfl (Or.inl rfl)) (pgs_cons (pg_name (i := 4) sc.nd rfl (Or.inl rfl)) pgs_nil)))
      (pss_one (ps_if (pt_cmpR op_eq (pv 3) (pv 1) (nomark _))
      (pss_one (ps_set (i := 2) sc.nd rfl (Or.inl rfl) (pv 4)))
      pss_nil)))
      (pss_one (ps_ret (pe_callTy call_list_of (by rfl) T.blist (by decide +kernel) (pa_cons (pv 2) pa_nil))))))), ?_⟩
    refine ⟨_, rfl, p, dx, _, rfl, h1, dF_no (by decide +kernel), _, rfl, Z, p, ds, i, rfl, da, fun l0 l1 => ?_, q2⟩
    obtain ⟨m, rfl⟩ : ∃ m : Nat, i = m := ⟨i.toNat, by omega⟩
    have lm : m < ds.st.length := by omega
    obtain ⟨b0, hb0⟩ : ∃ b0, ds.st[m]? = some b0 := ⟨_, List.getElem?_eq_getElem lm⟩
    obtain ⟨x0, hx0, r0, rfl, zr0, hr0, lr0⟩ := pair_get h4 hb0
    refine ⟨_, rfl, p, C, dx, _, _, rfl, h1, TD.cl, TD.n1, dF_S, _, rfl, S, vs, m, V.ref r0, rfl, rfl, SqL.of h3, by rw [atI_nat]; exact hx0, ?_⟩
    refine ⟨_, rfl, p, C, dx, _, _, rfl, h1, TD.cl, TD.n2, dF_W, W, rfl, ⟨_, SqL.of h5⟩, for_list (K := K) (a := W) (xs := us) (fun j σ H' => ∃ (b : List Int) (r : Addr) (y3 y4 : Option V), σ = [some (.ref p), some (.int m), some (.ref r), y3, y4] ∧ H' = H ∧ H r = some (.lst (iv b)) ∧ b = (ds.wa.take j).foldl (fun f e => if e.1 = m then e.2 else f) (ds.st.getD m []))
      ⟨b0, r0, _, _, rfl, rfl, hr0, by rw [List.take_zero, List.foldl_nil, List.getD_eq_getElem?_getD, hb0]; rfl⟩ (fun j σ H' _ ⟨_, _, _, _, _, e, _⟩ => by rw [e]; exact SqL.of h5) ?_ ?_⟩
    · rintro j y σ H' hj ⟨b, r, y3, y4, rfl, rfl, hr', eb⟩
      obtain ⟨e, he, t, q, rfl, _, ht, zq, hq, lq⟩ := pair_get1 h6 hj
      refine ⟨t, _, rfl, SqT.of ht, rfl, _, _, rfl, _, _, rfl, rfl, ?_⟩
      have ef : (ds.wa.take (j + 1)).foldl (fun f e => if e.1 = m then e.2 else f) (ds.st.getD m []) = if e.1 = m then e.2 else b := by
        rw [List.take_add_one, he, List.foldl_append, ← eb]
        rfl
      refine ⟨_, rfl, _, rfl, rfl, _, rfl, ?_⟩
      by_cases em : e.1 = m
      · refine iteY (decide_eq_true (by rw [em])) ⟨_, rfl, e.2, q, _, _, rfl, rfl, hq, ?_⟩
        rw [ef, if_pos em]
      · refine iteE (decide_eq_false fun z => em (by injection z with z; exact Int.ofNat.inj z)) ⟨b, r, _, _, rfl, rfl, hr', ?_⟩
        rw [ef, if_neg em]
    · rintro σ H' ⟨b, r, y3, y4, rfl, rfl, hr', eb⟩
      refine ⟨_, rfl, r, _, rfl, .inl (SqL.of hr'), fun l nl => ?_⟩
      have lu : us.length = ds.wa.length := pair_len h6
      rw [lu, List.take_length] at eb
      refine q1 m rfl lm _ l (Same.lst (Same.refl _) nl) nl ?_
      rw [upd_same, eb]
      rfl
end
end K5

set_option maxRecDepth 100000
set_option maxHeartbeats 4000000
/-! cut_power -/
namespace K5
open PySem hiding Tok code
open PySem.Spec PyProof.Rows GD K1 GS
open L2 hiding rest
theorem grow_grow {Z : Addr → Prop} {H H1 H2 : Hp} (k : Kz Z H H1) {q : Addr} (h : grow (grow Z H H1) H1 H2 q) : grow Z H H2 q := by
  obtain ⟨h, h2⟩ := h
  refine ⟨?_, h2⟩
  rcases h with h | h
  · exact h.1
  · by_cases z : Z q
    · exact .inl z
    · cases e : H q with
      | none => exact .inr rfl
      | some o => rw [k q o z e] at h; cases h
theorem Kz.trans {Z : Addr → Prop} {H H1 H2 : Hp} (a : Kz Z H H1) (b : Kz (grow Z H H1) H1 H2) : Kz Z H H2 := fun q o z e => b q o (fun g => by
  rcases g.1 with h | h
  · exact z h
  · rw [e] at h; cases h) (a q o z e)
theorem Kz.sm {Z : Addr → Prop} {H H1 : Hp} (s : Same H H1) : Kz Z H H1 := fun q o _ e => s q o e
theorem DA.mono {C : Addr} {Z Z' : Addr → Prop} {H : Hp} {p : Addr} {s : DS} (h : DA C Z H p s) (k : ∀ q, Z q → Z' q) (a : ∀ q, Z' q → H q ≠ none) : DA C Z' H p s := by
  obtain ⟨dx, S, W, v, vs, us, h1, h2, h3, h4, h5, h6, h7, z1, z2, z3, z4, n⟩ := h.ex
  refine ⟨⟨dx, S, W, v, vs, us, h1, h2, h3, pair_imp h4 fun a b => BkR.up fun q b z _ e => ⟨k _ z, e⟩, h5, pair_imp h6 fun a b => WtR.up (fun q b z _ e => ⟨k _ z, e⟩) (fun q xs z e => ⟨k _ z, e⟩), ?_, k _ z1, k _ z2, k _ z3, k _ z4, n⟩, h.lo, h.hi, h.pl, a⟩
  revert h7
  cases s.sc with
  | none => exact fun z => z
  | some x =>
    obtain ⟨m, t⟩ := x
    exact fun ⟨t1, t2, e, y1, g1, y2, n1, n2, g2, b⟩ => ⟨t1, t2, e, k _ y1, g1, k _ y2, n1, n2, g2, b⟩
/-- one write, cut -/
def cutE (tn : List Int) (st : List (List Int)) (k : Nat) (e : Nat × List Int) : List (List Int) :=
  st.set e.1 (e.2.take (tn.getD k 0).toNat ++ (st.getD e.1 []).drop (tn.getD k 0).toNat)
def cutL (tn : List Int) : List (Nat × List Int) → Nat → List (List Int) → List (List Int)
  | [], _, st => st
  | e :: r, k, st => cutL tn r (k + 1) (cutE tn st k e)
def cutM (s : DS) (tn : List Int) : DS := ⟨cutL tn s.wa 0 s.st, [], s.cuts + 1, none⟩
theorem cutL_snoc (tn : List Int) (e : Nat × List Int) : ∀ (l : List (Nat × List Int)) (k : Nat) (st : List (List Int)), cutL tn (l ++ [e]) k st = cutE tn (cutL tn l k st) (k + l.length) e
  | [], k, st => rfl
  | x :: l, k, st => by
    show cutL tn (l ++ [e]) (k + 1) (cutE tn st k x) = cutE tn (cutL tn l (k + 1) (cutE tn st k x)) (k + (l.length + 1)) e
    rw [cutL_snoc tn e l (k + 1), show k + 1 + l.length = k + (l.length + 1) by omega]
theorem cutE_len (tn : List Int) (st : List (List Int)) (k : Nat) (e : Nat × List Int) : (cutE tn st k e).length = st.length := List.length_set
theorem cutL_len (tn : List Int) : ∀ (l : List (Nat × List Int)) (k : Nat) (st : List (List Int)), (cutL tn l k st).length = st.length
  | [], _, _ => rfl
  | e :: r, k, st => by
    show (cutL tn r (k + 1) (cutE tn st k e)).length = _
    rw [cutL_len tn r, cutE_len]
theorem okT_get {tn : List Int} (h : okT tn = true) (k : Nat) : 0 ≤ tn.getD k 0 ∧ tn.getD k 0 ≤ 32 := by
  rw [List.getD_eq_getElem?_getD]
  cases e : tn[k]? with
  | none => exact ⟨by decide, by decide⟩
  | some x =>
    have := List.all_eq_true.mp h x (List.mem_of_getElem? e)
    unfold okc at this
    rw [Bool.and_eq_true] at this
    exact ⟨of_decide_eq_true this.1, of_decide_eq_true this.2⟩
theorem ite_same {c : Bool} {A B : Prop} (G : Prop) (g : G) (a : c = true → G → A) (b : c = false → G → B) : if c = true then A else B := by
  cases c with
  | true => exact iteT (a rfl g)
  | false => exact iteF (b rfl g)
theorem cut_n {b : List Int} (n : Nat) : cutV (iv b) none (some (n : Int)) = iv (b.take n) := by
  unfold cutV
  rw [HT.sIx_none, HT.sIx_nat, List.drop_zero, Nat.sub_zero, iv_len]
  unfold iv
  rw [List.map_take, ← List.length_map (f := V.int) (as := b)]
  exact (List.take_eq_take_min).symm
theorem cut_from {b : List Int} {m : Nat} (h : m ≤ b.length) : cutV (iv b) (some (m : Int)) none = iv (b.drop m) := by
  unfold cutV
  rw [HT.sIx_nat, HT.sIx_none, iv_len, Nat.min_eq_left h, List.take_of_length_le (by rw [List.length_drop, iv_len]; omega)]
  unfold iv
  rw [List.map_drop]
theorem ixn {n j : Nat} (h : j < n) : ixN n (j : Int) = some j := by
  unfold ixN
  rw [if_pos (by omega), if_pos (by omega)]
  rfl
/-- all but the one place stays -/
def KS (S : Addr) (H H' : Hp) : Prop := ∀ q o, q ≠ S → H q = some o → H' q = some o
theorem KS.none {S : Addr} {H H' : Hp} (k : KS S H H') (hS : H' S ≠ none) {q : Addr} (h : H' q = none) : H q = none := by
  cases e : H q with
  | none => rfl
  | some o =>
    by_cases z : q = S
    · rw [z] at h; exact absurd h hS
    · rw [k q o z e] at h; cases h
theorem KS.sm {S : Addr} {H H1 H2 : Hp} (k : KS S H H1) (s : Same H1 H2) : KS S H H2 := fun q o z e => s q o (k q o z e)
section
variable {P : Program} {w : World} {K : PySem.W.Frag} {mg : Str → Option Value} {base : Heap} {D C : Addr}
def spCut (C D : Addr) : L2.Sp := fun vs H Q E => ∃ (Z : Addr → Prop) (p : Addr) (s : DS) (t : Addr) (tn : List Int), vs = [.ref p, .ref t] ∧ DA C Z H p s ∧ H t = some (.lst (iv tn)) ∧ tn.length ≤ 1000 ∧ s.wa.length ≤ 1000 ∧
  (okT tn = true → ∀ H', Kz Z H H' → DA C (grow Z H H') H' p (cutM s tn) → Q .non H') ∧ (okT tn = false → OErr E D H "torn")
theorem scCut : FnScope ["self", "torn", "number", "at", "block", "many"] ["self", "torn"] (defScope mCut) := ⟨rfl, rfl, rfl, by decide +kernel, rfl, by decide +kernel, by decide +kernel⟩
theorem ok_cut {f f1 : Addr} {fd fd1 : FuncData} (F : Fun K "cut_power" "Disk.cut_power" mCut f fd) (T : Txt K mg) (T3 : Txt3 mg) (TD : TxD K mg C)
    (FT : FO P w K mg base (L2.CX P w) 3 "check_torn" ["torn"] (spTornC D) f1 fd1) : FnOk P w K mg base (L2.CX P w) 4 f fd ["self", "torn"] (spCut C D) := by
  have sc := scCut
  refine F.okX sc (fun vs H Q E h => ?_) (fun cdv A outer s H vs Q E hr h => ?_)
  · obtain ⟨Z, p, ds, t, tn, rfl, _⟩ := h
    rfl
  · obtain ⟨Z, p, ds, t, tn, rfl, da, ht, hl, hw, q1, q2⟩ := h
    obtain ⟨dx, S, W, v, vs, us, h1, h2, h3, h4, h5, h6, h7, z1, z2, z3, z4, n⟩ := da.ex
    refine ⟨_, (pss_cons (ps_expr (pe_call FT.ok hr (by rfl) FT.m FT.kp FT.b .nil passE (pa_cons (pv 1) pa_nil)))
      (pss_cons (ps_for (passes_of rfl) rfl (pi_enum rfl T3.enumerate (pa_cons (pe_fld (pv 0) rfl) pa_nil)) (pg_tup rfl (pgs_cons (pg_name (i := 2) sc.nd rfl (Or.inl rfl)) (pgs_cons (pg_tup rfl (pgs_cons (pg_name (i := 3) sc.nd rfl (Or.inl rfl)) (pgs_cons (pg_name (i := 4) sc.nd rfl (Or.inl rfl)) pgs_nil))) pgs_nil)))
      (pss_cons (ps_set (i := 5) sc.nd rfl (Or.inl rfl) (pe_ifExp (pt_cmpR op_lt (pv 2) (pe_callB call_len_seq (by rfl) T.len (by decide +kernel) (pa_cons (pv 1) pa_nil)) (nomark _)) (pe_ix ix_list (pv 1) (pv 2) (fun _ _ => rfl)) pe_int))
      (pss_one (ps_asg (pe_op op_cat (pe_slice sl_list (pv 4) po_none (po_some (pv 5))) (pe_slice sl_list (pe_ix ix_list (pe_fld (pv 0) rfl) (pv 3) (fun _ _ => rfl)) (po_some (pv 5)) po_none)) (pg_sub (pe_fld (pv 0) rfl) (pv 3) set_list)))))
      (pss_cons (ps_fld (pv 0) (pe_lst pa_nil) rfl)
      (pss_cons (ps_fldaug (pv 0) pe_int in_add)
      (pss_one (ps_fld (pv 0) pe_non rfl)))))), ?_⟩
    refine ⟨_, rfl, t, tn, rfl, ht, hl, fun ho H1 s1 => ?_, fun ho => q2 ho⟩
    have gp1 := s1 _ _ h1
    have gS1 := s1 _ _ h3
    have gW1 := s1 _ _ h5
    have gt1 := s1 _ _ ht
    have da1 : DA C Z H1 p ds := da.sm s1
    have ivr : iv tn ≠ vs := fun e => by
      have l8 : 8 ≤ vs.length := by rw [pair_len h4]; exact da.lo
      match tn, vs, e, l8, bk_refs h4 with
      | [], vs, e, l8, _ =>
        have e : ([] : List V) = vs := e
        rw [← e] at l8
        simp at l8
      | x :: r, vs, e, l8, hb =>
        have e : V.int x :: iv r = vs := e
        obtain ⟨r', e'⟩ := hb (.int x) (by rw [← e]; exact List.mem_cons_self)
        cases e'
    have ntS : t ≠ S := fun z => by
      rw [z, h3] at ht
      injection ht with ht
      injection ht with ht
      exact ivr ht.symm
    have npS : p ≠ S := ne_of h1 h3 (by intro z; cases z)
    have lu : us.length = ds.wa.length := pair_len h6
    refine ⟨_, rfl, p, C, dx, _, _, rfl, gp1, TD.cl, TD.n2, dF_W, W, _, rfl, SqL.of gW1, for_it (walk_enum (K := K) (a := W) (xs := us)) (fun j σ H' => ∃ (y2 y3 y4 y5 : Option V) (vj : List V), σ = [some (.ref p), some (.ref t), y2, y3, y4, y5] ∧ KS S H1 H' ∧ H' S = some (.lst vj) ∧ Paired (BkR (fun q => Z q ∨ H q = none) H') vj (cutL tn (ds.wa.take j) 0 ds.st))
      ⟨_, _, _, _, vs, rfl, fun q o _ e => e, gS1, pair_imp h4 fun a b => BkR.up fun q b z _ e => ⟨.inl z, s1 _ _ e⟩⟩ (fun j σ H' _ ⟨_, _, _, _, _, _, ks, _⟩ => SqL.of (ks _ _ n.symm gW1)) ?_ ?_⟩
    · rintro j y σ H2 H3 hj ⟨y2, y3, y4, y5, vj, rfl, ks, gS2, pr⟩ ⟨Tq, v1, v2, rfl, nT, rfl, hv1, hv2⟩
      cases hv1
      obtain ⟨e, he, t', q, rfl, zt, gt, zq, gq, lq⟩ := pair_get1 h6 hv2
      have s3 : Same H2 (upd H2 Tq (.tup [.int (j : Nat), .ref t'])) := snew (Same.refl _) nT
      have nt' : t' ≠ S := ne_of gt h3 (by intro z; cases z)
      have nqS : q ≠ S := blk_ne gq lq h3 (bk_refs h4)
      have gp3 := s3 _ _ (ks _ _ npS gp1)
      have gS3 := s3 _ _ gS2
      have gt3 := s3 _ _ (ks _ _ ntS gt1)
      have gt'3 := s3 _ _ (ks _ _ nt' (s1 _ _ gt))
      have gq3 := s3 _ _ (ks _ _ nqS (s1 _ _ gq))
      have lt : e.1 < ds.st.length := da.pl e (List.mem_of_getElem? he)
      obtain ⟨old, hold⟩ : ∃ old, (cutL tn (ds.wa.take j) 0 ds.st)[e.1]? = some old := ⟨_, List.getElem?_eq_getElem (by rw [cutL_len]; exact lt)⟩
      obtain ⟨v0, hv0, r0, rfl, zr0, gr0, lr0⟩ := pair_get pr hold
      have gr03 := s3 _ _ gr0
      have lvj : vj.length = ds.st.length := by rw [pair_len pr, cutL_len]
      obtain ⟨m, hm⟩ : ∃ m : Nat, tn.getD j 0 = m := ⟨(tn.getD j 0).toNat, by have := (okT_get ho j).1; omega⟩
      have hm32 : m ≤ 32 := by have := (okT_get ho j).2; omega
      have em : (tn.getD j 0).toNat = m := by rw [hm]; rfl
      have ec : cutL tn (ds.wa.take (j + 1)) 0 ds.st = (cutL tn (ds.wa.take j) 0 ds.st).set e.1 (e.2.take m ++ old.drop m) := by
        have lj : j < ds.wa.length := by rw [← lu]; exact hj
        rw [List.take_add_one, he]
        show cutL tn (ds.wa.take j ++ [e]) 0 ds.st = _
        rw [cutL_snoc, List.length_take, Nat.min_eq_left (by omega), Nat.zero_add]
        unfold cutE
        rw [em, List.getD_eq_getElem?_getD (l := cutL tn (ds.wa.take j) 0 ds.st), hold]
        rfl
      refine ⟨Tq, _, rfl, SqT.of upd_same, rfl, _, _, rfl, _, _, rfl, ⟨t', _, rfl, SqT.of gt'3, rfl, _, _, rfl, _, _, rfl, rfl, ?_⟩⟩
      refine ⟨rfl, ?_⟩
      refine ⟨_, rfl, _, rfl, t, _, rfl, .inl (SqL.of gt3), _, _, rfl, rfl, _, rfl, ?_⟩
      refine ite_same _ ?_ (fun hc g => ⟨_, rfl, _, rfl, t, _, j, .int m, rfl, rfl, SqL.of gt3, atI_nat (iv_get ?_), g⟩) (fun hc g => ?_)
      · refine ⟨_, rfl, _, rfl, m, rfl, q, _, rfl, SqL.of gq3, fun a1 na1 => ?_⟩
        rw [cut_n]
        generalize hH3 : upd H2 Tq (.tup [.int (j : Nat), .ref t']) = H3 at *
        have s4 : Same H3 (upd H3 a1 (.lst (iv (e.2.take m)))) := snew (Same.refl _) na1
        have ga1 : upd H3 a1 (.lst (iv (e.2.take m))) a1 = some (.lst (iv (e.2.take m))) := upd_same
        generalize hH4 : upd H3 a1 (.lst (iv (e.2.take m))) = H4 at *
        refine ⟨_, rfl, p, C, dx, _, _, rfl, s4 _ _ gp3, TD.cl, TD.n1, dF_S, _, rfl, S, vj, e.1, _, rfl, rfl, SqL.of (s4 _ _ gS3), atI_nat hv0, _, rfl, m, rfl, r0, _, rfl, SqL.of (s4 _ _ gr03), fun a2 na2 => ?_⟩
        rw [cut_from (by omega)]
        have s5 : Same H4 (upd H4 a2 (.lst (iv (old.drop m)))) := snew (Same.refl _) na2
        have ga2 : upd H4 a2 (.lst (iv (old.drop m))) a2 = some (.lst (iv (old.drop m))) := upd_same
        generalize hH5 : upd H4 a2 (.lst (iv (old.drop m))) = H5 at *
        have ll : (e.2.take m ++ old.drop m).length = 32 := by
          rw [List.length_append, List.length_take, List.length_drop, lq, lr0]
          omega
        refine ⟨a1, a2, _, _, rfl, rfl, s5 _ _ ga1, ga2, (by rw [← List.length_append, iv_app, iv_len, ll]; decide), fun a3 na3 => ?_⟩
        rw [iv_app]
        have s6 : Same H5 (upd H5 a3 (.lst (iv (e.2.take m ++ old.drop m)))) := snew (Same.refl _) na3
        have ga3 : upd H5 a3 (.lst (iv (e.2.take m ++ old.drop m))) a3 = some (.lst (iv (e.2.take m ++ old.drop m))) := upd_same
        generalize hH6 : upd H5 a3 (.lst (iv (e.2.take m ++ old.drop m))) = H6 at *
        have s36 : Same H3 H6 := strans s4 (strans s5 s6)
        have s26 : Same H2 H6 := strans s3 s36
        have gS6 := s36 _ _ gS3
        refine ⟨_, rfl, p, C, dx, _, _, rfl, s36 _ _ gp3, TD.cl, TD.n1, dF_S, _, rfl, S, vj, e.1, e.1, rfl, rfl, gS6, ixn (by rw [lvj]; exact lt), ?_⟩
        have n3S : a3 ≠ S := fun z => by
          rw [z] at na3
          rw [s5 _ _ (s4 _ _ gS3)] at na3
          cases na3
        refine ⟨_, _, _, _, _, rfl, fun q o z e => by rw [upd_ne z]; exact s26 q o (ks q o z e), upd_same, ?_⟩
        rw [ec]
        refine pair_set (pair_imp pr fun a b => BkR.up fun q b z lb eb => ⟨z, ?_⟩) e.1 ⟨a3, rfl, .inr ?_, by rw [upd_ne n3S]; exact ga3, ll⟩
        · rw [upd_ne (blk_ne eb lb gS2 (bk_refs pr))]
          exact s26 _ _ eb
        · have k5 : KS S H H5 := fun q o z e => s5 _ _ (s4 _ _ (s3 _ _ (ks q o z (s1 q o e))))
          exact k5.none (by rw [s5 _ _ (s4 _ _ gS3)]; intro z; cases z) na3
      · have hc := of_decide_eq_true hc
        rw [iv_len] at hc
        have hc : j < tn.length := by omega
        rw [← hm, List.getD_eq_getElem?_getD, List.getElem?_eq_getElem hc]
        rfl
      · have hc := of_decide_eq_false hc
        rw [iv_len] at hc
        have e0 : (m : Int) = 0 := by
          rw [← hm, List.getD_eq_getElem?_getD, List.getElem?_eq_none (by omega)]
          rfl
        exact e0 ▸ g
    · rintro σ Hl ⟨y2, y3, y4, y5, vj, rfl, ks, gSl, pr⟩
      rw [lu, List.take_length] at pr
      have gpl := ks _ _ npS gp1
      refine ⟨by decide, fun W2 nW2 => ?_⟩
      have nW2p : p ≠ W2 := ne_of_none gpl nW2
      refine ⟨_, rfl, p, C, dx, _, rfl, (by rw [upd_ne nW2p]; exact gpl), TD.cl, TD.n2, (by show 4 < 1000; decide), ?_⟩
      rw [putF_W]
      refine ⟨_, rfl, p, C, dx, _, _, rfl, upd_same, TD.cl, TD.n3, dF_c, _, _, rfl, rfl, dx, _, upd_same, (by show 4 < 1000; decide), ?_⟩
      refine ⟨_, rfl, p, C, dx, _, rfl, upd_same, TD.cl, TD.n4, ?_, ?_⟩
      · rw [show ((ds.cuts : Int) + 1) = ((ds.cuts + 1 : Nat) : Int) from rfl, putF_c]
        show 4 < 1000
        decide
      rw [show ((ds.cuts : Int) + 1) = ((ds.cuts + 1 : Nat) : Int) from rfl, putF_c, putF_s]
      have kl : ∀ q, q ≠ p → q ≠ W2 → (upd (upd (upd (upd Hl W2 (HO.lst [])) p (HO.ins C dx (dF S W2 ds.cuts v))) p (HO.ins C dx (dF S W2 (ds.cuts + 1) v))) p (HO.ins C dx (dF S W2 (ds.cuts + 1) V.non))) q = Hl q := fun q a b => by
        rw [upd_ne a, upd_ne a, upd_ne a, upd_ne b]
      have kp : (upd (upd (upd (upd Hl W2 (HO.lst [])) p (HO.ins C dx (dF S W2 ds.cuts v))) p (HO.ins C dx (dF S W2 (ds.cuts + 1) v))) p (HO.ins C dx (dF S W2 (ds.cuts + 1) V.non))) p = some (HO.ins C dx (dF S W2 (ds.cuts + 1) V.non)) := upd_same
      have kW : (upd (upd (upd (upd Hl W2 (HO.lst [])) p (HO.ins C dx (dF S W2 ds.cuts v))) p (HO.ins C dx (dF S W2 (ds.cuts + 1) v))) p (HO.ins C dx (dF S W2 (ds.cuts + 1) V.non))) W2 = some (HO.lst []) := by
        rw [upd_ne nW2p.symm, upd_ne nW2p.symm, upd_ne nW2p.symm, upd_same]
      generalize (upd (upd (upd (upd Hl W2 (HO.lst [])) p (HO.ins C dx (dF S W2 ds.cuts v))) p (HO.ins C dx (dF S W2 (ds.cuts + 1) v))) p (HO.ins C dx (dF S W2 (ds.cuts + 1) V.non))) = H9 at *
      have nW2S : W2 ≠ S := fun z => by rw [z, gSl] at nW2; cases nW2
      have nl : ∀ q, H q ≠ none → Hl q ≠ none := fun q a b => a (by
        have : H1 q = none := ks.none (by rw [gSl]; intro z; cases z) b
        exact sfree s1 this)
      have hn : ∀ q, H q ≠ none → H9 q ≠ none := fun q a => by
        by_cases e1 : q = p
        · rw [e1, kp]; intro z; cases z
        by_cases e2 : q = W2
        · rw [e2, kW]; intro z; cases z
        rw [kl q e1 e2]
        exact nl q a
      have up : ∀ q o, q ≠ p → Hl q = some o → H9 q = some o := fun q o a e => by
        rw [kl q a (fun z => by rw [z, nW2] at e; cases e)]
        exact e
      refine q1 ho H9 (fun q o z e => ?_) ⟨⟨dx, S, W2, .non, vj, [], kp, ?_, up _ _ npS.symm gSl, pair_imp pr fun a b => BkR.up fun q b z lb e => ?_, kW, .nil, rfl, ?_, ?_, ?_, ?_, nW2S.symm⟩, ?_, ?_, fun e he => (by cases he), fun q z => z.2⟩
      · exact up q o (fun y => z (y ▸ z1)) (ks q o (fun y => z (y ▸ z3)) (s1 q o e))
      · exact up _ _ (ne_of h2 h1 (by intro z; cases z)) (ks _ _ (ne_of h2 h3 (by intro z; cases z)) (s1 _ _ h2))
      · have e9 := up q _ (fun y => by rw [y, gpl] at e; cases e) e
        exact ⟨⟨z, by rw [e9]; intro z; cases z⟩, e9⟩
      · exact ⟨.inl z1, hn _ (da.al _ z1)⟩
      · exact ⟨.inl z2, hn _ (da.al _ z2)⟩
      · exact ⟨.inl z3, hn _ (da.al _ z3)⟩
      · refine ⟨.inr ?_, by rw [kW]; intro z; cases z⟩
        cases e : H W2 with
        | none => rfl
        | some o => exact absurd nW2 (nl W2 (by rw [e]; intro z; cases z))
      · show 8 ≤ (cutL tn ds.wa 0 ds.st).length
        rw [cutL_len]
        exact da.lo
      · show (cutL tn ds.wa 0 ds.st).length ≤ 400
        rw [cutL_len]
        exact da.hi
end
end K5

set_option maxRecDepth 100000
set_option maxHeartbeats 4000000
/-! count_action, write, flush -/
namespace K5
open PySem hiding Tok code
open PySem.Spec PyProof.Rows GD K1 GS
open L2 hiding rest
/-- what is left of a schedule behind an action; none: the power is cut -/
def stepS (s : DS) : Option DS := match s.sc with
  | none => some s
  | some (0, _) => none
  | some (m + 1, tn) => some ⟨s.st, s.wa, s.cuts, some (m, tn)⟩
def tnS (s : DS) : List Int := match s.sc with
  | none => []
  | some (_, tn) => tn
theorem DA.gr {C : Addr} {Z : Addr → Prop} {H : Hp} {p : Addr} {s : DS} (h : DA C Z H p s) : DA C (grow Z H H) H p s :=
  h.mono (fun q z => ⟨.inl z, h.al q z⟩) fun q z => z.2
theorem DA.gr2 {C : Addr} {Z : Addr → Prop} {H H1 : Hp} {p : Addr} {s : DS} (h : DA C Z H1 p s) (sm : Same H H1) : DA C (grow Z H H1) H1 p s :=
  h.mono (fun q z => ⟨.inl z, h.al q z⟩) fun q z => z.2
theorem DA.gg {C : Addr} {Z : Addr → Prop} {H H1 H2 : Hp} {p : Addr} {s : DS} (k : Kz Z H H1) (h : DA C (grow (grow Z H H1) H1 H2) H2 p s) : DA C (grow Z H H2) H2 p s :=
  h.mono (fun q z => grow_grow k z) fun q z => z.2
theorem Kz.pre {Z : Addr → Prop} {H H1 H2 : Hp} (s : Same H H1) (k : Kz Z H1 H2) : Kz Z H H2 := fun q o z e => k q o z (s q o e)
theorem DA.pre {C : Addr} {Z : Addr → Prop} {H H1 H2 : Hp} {p : Addr} {s : DS} (sm : Same H H1) (h : DA C (grow Z H1 H2) H2 p s) : DA C (grow Z H H2) H2 p s :=
  h.mono (fun q z => ⟨z.1.elim .inl fun n => .inr (sfree sm n), z.2⟩) fun q z => z.2
/-- what the top has written of an exception without its own making -/
structure TxP (K : PySem.W.Frag) (mg : Str → Option Value) (x : Str) (PC : Addr) : Prop where
  g : mg x = some (.ref PC)
  x : PySem.W.excIn K PC [.type "ValueError", .type "Exception", .type "BaseException", .type "object"] "ValueError.__new__" = true
  k : PySem.W.keepIn K (.ref PC) = true
  b : PySem.W.subIn K (.ref PC) (.type "BaseException") = some true
  t : PySem.W.typeIn K (.ref PC) = some (.type "type")
section
variable {P : Program} {w : World} {K : PySem.W.Frag} {mg : Str → Option Value} {base : Heap} {D C PC : Addr}
def spCount (C PC : Addr) : L2.Sp := fun vs H Q E => ∃ (Z : Addr → Prop) (p : Addr) (s : DS), vs = [.ref p] ∧ DA C Z H p s ∧ s.wa.length ≤ 1000 ∧ (tnS s).length ≤ 1000 ∧
  (∀ s', stepS s = some s' → ∀ H', Kz Z H H' → DA C (grow Z H H') H' p s' → Q .non H') ∧
  (stepS s = none → ∀ H', Kz Z H H' → DA C (grow Z H H') H' p (cutM s (tnS s)) → E (.ref PC) none H')
theorem scCount : FnScope ["self", "many", "torn"] ["self"] (defScope mCount) := ⟨rfl, rfl, rfl, by decide +kernel, rfl, by decide +kernel, by decide +kernel⟩
theorem ok_count {f f1 : Addr} {fd fd1 : FuncData} (F : Fun K "count_action" "Disk.count_action" mCount f fd) (T : Txt K mg) (TD : TxD K mg C) (TP : TxP K mg "PowerCut" PC)
    (MK : MO P w K mg base (L2.CX P w) 4 C "cut_power" ["self", "torn"] (spCut C D) f1 fd1) : FnOk P w K mg base (L2.CX P w) 5 f fd ["self"] (spCount C PC) := by
  have sc := scCount
  refine F.okX sc (fun vs H Q E h => ?_) (fun cdv A outer s H vs Q E hr h => ?_)
  · obtain ⟨Z, p, ds, rfl, _⟩ := h
    rfl
  · obtain ⟨Z, p, ds, rfl, da, hw, ht, q1, q2⟩ := h
    obtain ⟨dx, S, W, v, vs, us, h1, h2, h3, h4, h5, h6, h7, z1, z2, z3, z4, n⟩ := da.ex
    refine ⟨_, (pss_cons (ps_if (pt_cmpR op_isN (pe_fld (pv 0) rfl) pe_non (nomark _))
      (pss_one ps_retN)
      pss_nil)
      (pss_cons (ps_asg (pe_fld (pv 0) rfl) (pg_tup rfl (pgs_cons (pg_name (i := 1) sc.nd rfl (Or.inl rfl)) (pgs_cons (pg_name (i := 2) sc.nd rfl (Or.inl rfl)) pgs_nil))))
      (pss_cons (ps_if (pt_cmpR op_eq (pv 1) pe_int (nomark _))
      (pss_cons (ps_expr (pe_meth (pv 0) TD.cl MK.mt MK.ok hr MK.bi .nil passE (pa_cons (pv 2) pa_nil)))
      (pss_one (ps_raise rfl (takes_of rfl rfl rfl rfl) (pmk_own PySem.F.excBase_ValueError TP.x TP.g TP.k (raises_own TP.b TP.t) rfl))))
      pss_nil)
      (pss_one (ps_fld (pv 0) (pe_tup (pa_cons (pe_op op_sub (pv 1) pe_int) (pa_cons (pv 2) pa_nil))) rfl))))), ?_⟩
    refine ⟨_, rfl, p, C, dx, _, _, rfl, h1, TD.cl, TD.n4, dF_s, rfl, _, rfl, ?_⟩
    cases hs : ds.sc with
    | none =>
      rw [hs] at h7
      have h7 : v = .non := h7
      refine iteY (decide_eq_true h7) (q1 ds ?_ H (Kz.sm (Same.refl H)) da.gr)
      unfold stepS
      rw [hs]
    | some x =>
      obtain ⟨m, tn⟩ := x
      rw [hs] at h7
      obtain ⟨t1, t2, e1, y1, g1, y2, n1, n2, g2, b⟩ := h7
      subst e1
      have etn : tnS ds = tn := by unfold tnS; rw [hs]
      rw [etn] at ht q2
      refine iteE (by exact decide_eq_false fun z => by cases z) ?_
      refine ⟨_, rfl, p, C, dx, _, _, rfl, h1, TD.cl, TD.n4, dF_s, t1, _, rfl, SqT.of g1, rfl, _, _, rfl, _, _, rfl, rfl, ?_⟩
      refine ⟨_, rfl, rfl, _, rfl, ?_⟩
      cases m with
      | zero =>
        have e0 : stepS ds = none := by unfold stepS; rw [hs]
        refine iteY (decide_eq_true rfl) ?_
        refine ⟨_, rfl, p, dx, _, rfl, h1, dF_no (by decide +kernel), _, rfl, Z, p, ds, t2, tn, rfl, da, g2, ht, hw, fun _ H' kz d => q2 e0 H' kz d, fun no => ?_⟩
        have : okT tn = true := List.all_eq_true.mpr fun x hx => by
          unfold okc
          rw [Bool.and_eq_true]
          exact ⟨decide_eq_true (b x hx).1, decide_eq_true (b x hx).2⟩
        rw [this] at no
        cases no
      | succ m =>
        have e0 : stepS ds = some ⟨ds.st, ds.wa, ds.cuts, some (m, tn)⟩ := by unfold stepS; rw [hs]
        refine iteE (decide_eq_false fun z => by injection z with z; omega) ?_
        refine ⟨_, rfl, _, _, rfl, rfl, _, rfl, (by show 2 ≤ sizeLine; decide), fun t3 n3 => ?_⟩
        have n3p : p ≠ t3 := ne_of_none h1 n3
        refine ⟨_, rfl, p, C, dx, _, rfl, (by rw [upd_ne n3p]; exact h1), TD.cl, TD.n4, (by show 4 < 1000; decide), ?_⟩
        rw [putF_s]
        show Q .non (upd (upd H t3 (.tup [.int (((m + 1 : Nat) : Int) - 1), .ref t2])) p (.ins C dx (dF S W ds.cuts (.ref t3))))
        rw [show (((m + 1 : Nat) : Int) - 1) = (m : Nat) by omega]
        have kp : upd (upd H t3 (.tup [.int (m : Nat), .ref t2])) p (.ins C dx (dF S W ds.cuts (.ref t3))) p = some (.ins C dx (dF S W ds.cuts (.ref t3))) := upd_same
        have kt : upd (upd H t3 (.tup [.int (m : Nat), .ref t2])) p (.ins C dx (dF S W ds.cuts (.ref t3))) t3 = some (.tup [.int (m : Nat), .ref t2]) := by rw [upd_ne n3p.symm, upd_same]
        have up : ∀ q o, q ≠ p → H q = some o → upd (upd H t3 (.tup [.int (m : Nat), .ref t2])) p (.ins C dx (dF S W ds.cuts (.ref t3))) q = some o := fun q o a e => by
          rw [upd_ne a, upd_ne (ne_of_none e n3)]
          exact e
        generalize upd (upd H t3 (.tup [.int (m : Nat), .ref t2])) p (.ins C dx (dF S W ds.cuts (.ref t3))) = H9 at *
        have hn : ∀ q, H q ≠ none → H9 q ≠ none := fun q a => by
          by_cases e1 : q = p
          · rw [e1, kp]; intro z; cases z
          · cases e : H q with
            | none => exact absurd e a
            | some o => rw [up q o e1 e]; intro z; cases z
        have gz : ∀ q, Z q → grow Z H H9 q := fun q z => ⟨.inl z, hn _ (da.al _ z)⟩
        refine q1 _ e0 H9 (fun q o z e => up q o (fun y => z (y ▸ z1)) e) ⟨⟨dx, S, W, .ref t3, vs, us, kp, up _ _ (ne_of h2 h1 (by intro z; cases z)) h2, up _ _ (ne_of h3 h1 (by intro z; cases z)) h3, pair_imp h4 fun a b => BkR.up fun q b z lb e => ⟨gz q z, up _ _ (ne_of e h1 (by intro z; cases z)) e⟩,
          up _ _ (ne_of h5 h1 (by intro z; cases z)) h5, pair_imp h6 fun a b => WtR.up (fun q b z lb e => ⟨gz q z, up _ _ (ne_of e h1 (by intro z; cases z)) e⟩) (fun q xs z e => ⟨gz q z, up _ _ (ne_of e h1 (by intro z; cases z)) e⟩),
          ⟨t3, t2, rfl, ⟨.inr n3, by rw [kt]; intro z; cases z⟩, kt, gz _ y2, n1, n2, up _ _ (ne_of g2 h1 (by intro z; cases z)) g2, b⟩, gz _ z1, gz _ z2, gz _ z3, gz _ z4, n⟩, da.lo, da.hi, da.pl, fun q z => z.2⟩
/-- a write that waits -/
theorem DA.push {Z : Addr → Prop} {H : Hp} {p : Addr} {s : DS} (da : DA C Z H p s) {n : Nat} {bs : List Int} (lt : n < s.st.length) (lb : bs.length = 32) :
    ∃ dx S W v us, H p = some (.ins C dx (dF S W s.cuts v)) ∧ H W = some (.lst us) ∧ us.length = s.wa.length ∧ Z W ∧ ∀ l t, H l = none → (upd H l (.lst (iv bs))) t = none →
      Kz Z H (upd (upd (upd H l (.lst (iv bs))) t (.tup [.int (n : Nat), .ref l])) W (.lst (us ++ [.ref t]))) ∧
      DA C (grow Z H (upd (upd (upd H l (.lst (iv bs))) t (.tup [.int (n : Nat), .ref l])) W (.lst (us ++ [.ref t])))) (upd (upd (upd H l (.lst (iv bs))) t (.tup [.int (n : Nat), .ref l])) W (.lst (us ++ [.ref t]))) p ⟨s.st, s.wa ++ [(n, bs)], s.cuts, s.sc⟩ := by
  obtain ⟨dx, S, W, v, vs, us, h1, h2, h3, h4, h5, h6, h7, z1, z2, z3, z4, nSW⟩ := da.ex
  refine ⟨dx, S, W, v, us, h1, h5, pair_len h6, z4, fun l t nl nt => ?_⟩
  have nlW : W ≠ l := ne_of_none h5 nl
  have s1 : Same H (upd H l (.lst (iv bs))) := Same.lst (Same.refl _) nl
  have ntW : W ≠ t := ne_of_none (s1 _ _ h5) nt
  have ntl : l ≠ t := fun z => by rw [← z, upd_same] at nt; cases nt
  have nt0 : H t = none := sfree s1 nt
  have kW : upd (upd (upd H l (.lst (iv bs))) t (.tup [.int (n : Nat), .ref l])) W (.lst (us ++ [.ref t])) W = some (.lst (us ++ [.ref t])) := upd_same
  have kt : upd (upd (upd H l (.lst (iv bs))) t (.tup [.int (n : Nat), .ref l])) W (.lst (us ++ [.ref t])) t = some (.tup [.int (n : Nat), .ref l]) := by rw [upd_ne ntW.symm, upd_same]
  have kl : upd (upd (upd H l (.lst (iv bs))) t (.tup [.int (n : Nat), .ref l])) W (.lst (us ++ [.ref t])) l = some (.lst (iv bs)) := by rw [upd_ne nlW.symm, upd_ne ntl, upd_same]
  have up : ∀ q o, q ≠ W → H q = some o → upd (upd (upd H l (.lst (iv bs))) t (.tup [.int (n : Nat), .ref l])) W (.lst (us ++ [.ref t])) q = some o := fun q o a e => by
    rw [upd_ne a, upd_ne (ne_of_none e nt0), upd_ne (ne_of_none e nl)]
    exact e
  generalize upd (upd (upd H l (.lst (iv bs))) t (.tup [.int (n : Nat), .ref l])) W (.lst (us ++ [.ref t])) = H9 at *
  have hn : ∀ q, H q ≠ none → H9 q ≠ none := fun q a => by
    by_cases e1 : q = W
    · rw [e1, kW]; intro z; cases z
    · cases e : H q with
      | none => exact absurd e a
      | some o => rw [up q o e1 e]; intro z; cases z
  have gz : ∀ q, Z q → grow Z H H9 q := fun q z => ⟨.inl z, hn _ (da.al _ z)⟩
  have bn : ∀ q b, b.length = 32 → H q = some (.lst (iv b)) → H9 q = some (.lst (iv b)) := fun q b lb e => by
    refine up q _ (fun z => ?_) e
    rw [z, h5] at e
    injection e with e
    injection e with e
    exact iv_refs lb (wt_refs h6) e.symm
  have tn : ∀ q xs, H q = some (.tup xs) → H9 q = some (.tup xs) := fun q xs e => up q _ (ne_of e h5 (by intro z; cases z)) e
  refine ⟨fun q o z e => up q o (fun y => z (y ▸ z4)) e, ⟨⟨dx, S, W, v, vs, us ++ [.ref t], up _ _ (ne_of h1 h5 (by intro z; cases z)) h1, up _ _ (ne_of h2 h5 (by intro z; cases z)) h2, up _ _ nSW h3, pair_imp h4 fun a b => BkR.up fun q b z lb e => ⟨gz q z, bn q b lb e⟩,
    kW, pair_snoc (pair_imp h6 fun a b => WtR.up (fun q b z lb e => ⟨gz q z, bn q b lb e⟩) (fun q xs z e => ⟨gz q z, tn q xs e⟩)) ⟨t, l, rfl, ⟨.inr nt0, by rw [kt]; intro z; cases z⟩, kt, ⟨.inr nl, by rw [kl]; intro z; cases z⟩, kl, lb⟩, ?_, gz _ z1, gz _ z2, gz _ z3, gz _ z4, nSW⟩, da.lo, da.hi, fun e he => ?_, fun q z => z.2⟩⟩
  · revert h7
    show ScR Z H S W v s.sc → ScR (grow Z H H9) H9 S W v s.sc
    cases s.sc with
    | none => exact fun z => z
    | some x =>
      obtain ⟨m, t⟩ := x
      exact fun ⟨t1, t2, e, y1, g1, y2, n1, n2, g2, b⟩ => ⟨t1, t2, e, gz _ y1, tn _ _ g1, gz _ y2, n1, n2, up _ _ n2 g2, b⟩
  · rcases List.mem_append.mp he with he | he
    · exact da.pl e he
    · rw [List.mem_singleton.mp he]
      exact lt
def okb (x : Int) : Bool := decide (0 ≤ x) && decide (x ≤ 255)
def okB (bs : List Int) : Bool := bs.all okb
def spWrite (C D PC : Addr) : L2.Sp := fun vs H Q E => ∃ (Z : Addr → Prop) (p : Addr) (s : DS) (i : Int) (b : Addr) (bs : List Int), vs = [.ref p, .int i, .ref b] ∧ DA C Z H p s ∧ H b = some (.lst (iv bs)) ∧ ¬ Z b ∧ bs.length ≤ 1000 ∧ s.wa.length ≤ 900 ∧ (tnS s).length ≤ 1000 ∧
  (i < 0 ∨ (s.st.length : Int) ≤ i → OErr E D H "at") ∧ ∀ n : Nat, i = n → n < s.st.length → (bs.length ≠ 32 ∨ okB bs = false → OErr E D H "block") ∧ (bs.length = 32 → okB bs = true →
    (∀ s', stepS s = some s' → ∀ H', Kz Z H H' → DA C (grow Z H H') H' p ⟨s'.st, s'.wa ++ [(n, bs)], s'.cuts, s'.sc⟩ → Q .non H') ∧
    (stepS s = none → ∀ H', Kz Z H H' → DA C (grow Z H H') H' p (cutM s (tnS s)) → E (.ref PC) none H'))
theorem scWrite : FnScope ["self", "at", "block", "byte"] ["self", "at", "block"] (defScope mWrite) := ⟨rfl, rfl, rfl, by decide +kernel, rfl, by decide +kernel, by decide +kernel⟩
theorem step_st {s s' : DS} (h : stepS s = some s') : s'.st = s.st ∧ s'.wa = s.wa ∧ s'.cuts = s.cuts := by
  unfold stepS at h
  split at h
  · cases h; exact ⟨rfl, rfl, rfl⟩
  · cases h
  · cases h; exact ⟨rfl, rfl, rfl⟩
theorem ok_write {f f1 f2 fI : Addr} {fd fd1 fd2 fdI : FuncData} (F : Fun K "write" "Disk.write" mWrite f fd) (T : Txt K mg) (T3 : Txt3 mg) (TD : TxD K mg C) (TO : TxO K mg D fI)
    (bI : Binds K fdI ["self", "name"] []) (FI : FnOk P w K mg base CX0 1 fI fdI ["self", "name"] (spOInit D))
    (MI : MO P w K mg base (L2.CX P w) 3 C "check_index" ["self", "at"] (spIndex C D) f1 fd1) (MC : MO P w K mg base (L2.CX P w) 5 C "count_action" ["self"] (spCount C PC) f2 fd2) :
    FnOk P w K mg base (L2.CX P w) 6 f fd ["self", "at", "block"] (spWrite C D PC) := by
  have sc := scWrite
  obtain ⟨t1, gBLOCK⟩ := TD.BLOCK
  obtain ⟨t2, gBYTE⟩ := TD.BYTE
  refine F.okX sc (fun vs H Q E h => ?_) (fun cdv A outer s H vs Q E hr h => ?_)
  · obtain ⟨Z, p, ds, i, b, bs, rfl, _⟩ := h
    rfl
  · obtain ⟨Z, p, ds, i, b, bs, rfl, da, hb, nb, lb, hw, ht, q1, q2⟩ := h
    obtain ⟨dx, S, W, v, vs, us, h1, h2, h3, h4, h5, h6, h7, z1, z2, z3, z4, n⟩ := da.ex
    have hr1 : Room 2 _ := hr.mono (by decide)
    have hr2 : Room 3 _ := hr.mono (by decide)
    refine ⟨_, (pss_cons (ps_expr (pe_meth (pv 0) TD.cl MI.mt MI.ok hr2 MI.bi .nil passE (pa_cons (pv 1) pa_nil)))
      (pss_cons (ps_if (PW.pt (pw_or (pt_cmpR op_ne (pe_callB call_len_seq (by rfl) T.len (by decide +kernel) (pa_cons (pv 2) pa_nil)) (pe_gint rfl gBLOCK) (nomark _)) (pw_or1 (pt_not (pt_val (pe_callB (cr_all rfl) (by rfl) T3.all (by decide +kernel) (pa_cons (pe_lc (own := [("byte", 3)]) rfl sc.nd (pi_list (pv 2)) (blkOk_by (own := [("byte", 3)]) (N := ["self", "at", "block", "byte"]) (sc := defScope mWrite) (by decide +kernel)) (fun _ _ _ _ _ => (pg_name (i := 3) sc.nd rfl (Or.inl rfl))) (fun _ _ _ _ _ => pts_nil) (fun _ _ _ _ _ => (pe_chain op_le op_le pe_int (pv 3) (pe_gint rfl gBYTE)))) pa_nil)))))))
      (pss_one (ps_raise rfl (takes_of rfl rfl rfl rfl) (pmk_oex TO.oc TO.ini TO.tyI FI hr1 bI .nil pass0 rfl TO.g (pa_cons pe_str pa_nil))))
      pss_nil)
      (pss_cons (ps_expr (pe_meth0 (pv 0) TD.cl MC.mt MC.ok hr MC.bi .nil passE))
      (pss_one (ps_expr (pe_bm PySem.F.plainAttrs_list PySem.F.slot_list_append PySem.F.type_list_append mt_append (pe_fld (pv 0) rfl) (pa_cons (pe_tup (pa_cons (pv 1) (pa_cons (pe_callTy call_list_of (by rfl) T.blist (by decide +kernel) (pa_cons (pv 2) pa_nil)) pa_nil))) pa_nil))))))), ?_⟩
    refine ⟨_, rfl, p, dx, _, rfl, h1, dF_no (by decide +kernel), _, rfl, Z, p, ds, i, rfl, da, fun l0 l1 => ?_, q1⟩
    obtain ⟨m, rfl⟩ : ∃ m : Nat, i = m := ⟨i.toNat, by omega⟩
    have lm : m < ds.st.length := by omega
    obtain ⟨q3, q4⟩ := q2 m rfl lm
    refine ⟨_, rfl, b, _, rfl, .inl (SqL.of hb), rfl, _, rfl, ?_⟩
    rw [iv_len]
    by_cases l32 : bs.length = 32
    · refine iteE (by rw [l32]; exact (congrArg (!·) (decide_eq_true rfl))) ?_
      refine ⟨_, rfl, b, rfl, ⟨_, SqL.of hb⟩, fun l nl => ?_⟩
      refine lc_it (walk_list (K := K) (a := b) (xs := iv bs)) (fun j H' => Same H H' ∧ H' l = some (.lst (((bs.take j).map okb).map V.bl))) ⟨Same.lst (Same.refl _) nl, upd_same⟩ (fun i H' _ pv => SqL.of (pv.1 _ _ hb)) (fun j x H2 H3 hj pv y => ?_) (fun H2 pv => ?_)
      · obtain ⟨rfl, hx⟩ := y
        unfold iv at hx
        rw [List.getElem?_map, Option.map_eq_some_iff] at hx
        obtain ⟨i, hi, rfl⟩ := hx
        refine ⟨rfl, ?_⟩
        have fin : ∀ b, okb i = b → ∃ acc : List V, H3 l = some (.lst acc) ∧ acc.length < sizeLine ∧ Same H (upd H3 l (.lst (acc ++ [V.bl b]))) ∧ (upd H3 l (.lst (acc ++ [V.bl b]))) l = some (.lst (((bs.take (j + 1)).map okb).map V.bl)) := fun b e => by
          refine ⟨_, pv.2, ?_, Same.lst pv.1 nl, ?_⟩
          · rw [List.length_map, List.length_map, List.length_take]
            exact szlt (by omega)
          · rw [upd_same, List.take_add_one, hi, ← e, List.map_append, List.map_append]
            rfl
        refine ⟨_, rfl, _, _, rfl, rfl, _, rfl, ?_⟩
        cases h0 : decide ((0 : Int) ≤ i) with
        | false => exact iteF (fin _ (by unfold okb; rw [h0]; rfl))
        | true => exact iteT ⟨_, _, rfl, rfl, (fin _ (by unfold okb; rw [h0]; rfl))⟩
      have lv : (iv bs).length = bs.length := List.length_map _
      rw [lv, List.take_length] at pv
      obtain ⟨s2, el⟩ := pv
      refine ⟨l, bs.map okb, rfl, SqL.of el, _, rfl, ?_⟩
      have ea : (bs.map okb).all id = okB bs := by
        rw [List.all_map]
        rfl
      rw [ea]
      cases ho : okB bs with
      | false => exact iteT (oor_k s2 (by decide +kernel) (q3 (.inr ho)))
      | true =>
        refine iteF ?_
        obtain ⟨q5, q6⟩ := q4 l32 ho
        refine ⟨_, rfl, p, dx, _, rfl, s2 _ _ h1, dF_no (by decide +kernel), Z, p, ds, rfl, da.sm s2, by omega, ht, fun s' es H3 kz d3 => ?_, fun es H3 kz d3 => q6 es H3 (kz.pre s2) (d3.pre s2)⟩
        obtain ⟨e1, e2, e3⟩ := step_st es
        have kz0 := kz.pre s2
        have d0 := d3.pre s2
        obtain ⟨dx3, S3, W3, v3, us3, g1, g2, g3, g4, push⟩ := d0.push (n := m) (bs := bs) (by rw [e1]; exact lm) l32
        refine ⟨_, rfl, p, C, dx3, _, _, rfl, g1, TD.cl, TD.n2, dF_W, .inl ⟨rfl, _, SqL.of g2⟩, _, rfl, _, rfl, b, _, rfl, .inl (SqL.of (kz0 _ _ nb hb)), fun l2 nl2 => ⟨(by show 2 ≤ sizeLine; decide), fun t nt => ?_⟩⟩
        obtain ⟨k4, d4⟩ := push l2 t nl2 nt
        refine ⟨W3, us3, _, rfl, rfl, ?_, (by rw [g3, e2]; exact szlt (by omega)), q5 s' es _ (kz0.trans k4) (d4.gg kz0)⟩
        rw [upd_ne (ne_of_none (Same.lst (Same.refl H3) nl2 _ _ g2) nt), upd_ne (ne_of_none g2 nl2)]
        exact g2
    · refine iteY (by exact (congrArg (!·) (decide_eq_false fun z => l32 (by injection z with z; exact Int.ofNat.inj z)))) ?_
      exact iteT (oor_k (Same.refl H) (by decide +kernel) (q3 (.inl l32)))
def flF (st : List (List Int)) (e : Nat × List Int) : List (List Int) := st.set e.1 e.2
def flM (s : DS) : DS := ⟨s.wa.foldl flF s.st, [], s.cuts, s.sc⟩
theorem fl_len : ∀ (l : List (Nat × List Int)) (st : List (List Int)), (l.foldl flF st).length = st.length
  | [], _ => rfl
  | e :: r, st => by
    show (r.foldl flF (flF st e)).length = _
    rw [fl_len r]
    exact List.length_set
def spFlush (C PC : Addr) : L2.Sp := fun vs H Q E => ∃ (Z : Addr → Prop) (p : Addr) (s : DS), vs = [.ref p] ∧ DA C Z H p s ∧ s.wa.length ≤ 1000 ∧ (tnS s).length ≤ 1000 ∧
  (∀ s', stepS s = some s' → ∀ H', Kz Z H H' → DA C (grow Z H H') H' p (flM s') → Q .non H') ∧
  (stepS s = none → ∀ H', Kz Z H H' → DA C (grow Z H H') H' p (cutM s (tnS s)) → E (.ref PC) none H')
theorem scFlush : FnScope ["self", "at", "block"] ["self"] (defScope mFlush) := ⟨rfl, rfl, rfl, by decide +kernel, rfl, by decide +kernel, by decide +kernel⟩
theorem ok_flush {f f2 : Addr} {fd fd2 : FuncData} (F : Fun K "flush" "Disk.flush" mFlush f fd) (TD : TxD K mg C) (MC : MO P w K mg base (L2.CX P w) 5 C "count_action" ["self"] (spCount C PC) f2 fd2) :
    FnOk P w K mg base (L2.CX P w) 6 f fd ["self"] (spFlush C PC) := by
  have sc := scFlush
  refine F.okX sc (fun vs H Q E h => ?_) (fun cdv A outer s H vs Q E hr h => ?_)
  · obtain ⟨Z, p, ds, rfl, _⟩ := h
    rfl
  · obtain ⟨Z, p, ds, rfl, da, hw, ht, q1, q2⟩ := h
    refine ⟨_, (pss_cons (ps_expr (pe_meth0 (pv 0) TD.cl MC.mt MC.ok hr MC.bi .nil passE))
      (pss_cons (ps_for (passes_of rfl) rfl (pi_list (pe_fld (pv 0) rfl)) (pg_tup rfl (pgs_cons (pg_name (i := 1) sc.nd rfl (Or.inl rfl)) (pgs_cons (pg_name (i := 2) sc.nd rfl (Or.inl rfl)) pgs_nil)))
      (pss_one (ps_asg (pv 2) (pg_sub (pe_fld (pv 0) rfl) (pv 1) set_list))))
      (pss_one (ps_fld (pv 0) (pe_lst pa_nil) rfl)))), ?_⟩
    obtain ⟨dx0, S0, W0, v0, vs0, us0, h10, _⟩ := da.ex
    refine ⟨_, rfl, p, dx0, _, rfl, h10, dF_no (by decide +kernel), Z, p, ds, rfl, da, hw, ht, fun s' es H1 kz d1 => ?_, q2⟩
    have q3 := q1 s' es
    obtain ⟨e1, e2, e3⟩ := step_st es
    obtain ⟨dx, S, W, v, vs, us, h1, h2, h3, h4, h5, h6, h7, z1, z2, z3, z4, n⟩ := d1.ex
    have npS : p ≠ S := ne_of h1 h3 (by intro z; cases z)
    have lu : us.length = s'.wa.length := pair_len h6
    refine ⟨_, rfl, p, C, dx, _, _, rfl, h1, TD.cl, TD.n2, dF_W, W, rfl, ⟨_, SqL.of h5⟩, for_list (K := K) (a := W) (xs := us) (fun j σ H' => ∃ (y1 y2 : Option V) (vj : List V), σ = [some (.ref p), y1, y2] ∧ KS S H1 H' ∧ (∀ q, H1 q ≠ none → H' q ≠ none) ∧ H' S = some (.lst vj) ∧ Paired (BkR (grow Z H H1) H1) vj ((s'.wa.take j).foldl flF s'.st))
      ⟨_, _, vs, rfl, fun q o _ e => e, fun q a => a, h3, h4⟩ (fun j σ H' _ ⟨_, _, _, _, ks, _⟩ => SqL.of (ks _ _ n.symm h5)) ?_ ?_⟩
    · rintro j y σ H2 hj ⟨y1, y2, vj, rfl, ks, nn, gS2, pr⟩
      obtain ⟨e, he, t', q, rfl, zt, gt, zq, gq, lq⟩ := pair_get1 h6 hj
      have nt' : t' ≠ S := ne_of gt h3 (by intro z; cases z)
      have lt : e.1 < s'.st.length := d1.pl e (List.mem_of_getElem? he)
      have lvj : vj.length = s'.st.length := by rw [pair_len pr, fl_len]
      refine ⟨t', _, rfl, SqT.of (ks _ _ nt' gt), rfl, _, _, rfl, _, _, rfl, rfl, ?_⟩
      refine ⟨_, rfl, _, rfl, p, C, dx, _, _, rfl, ks _ _ npS h1, TD.cl, TD.n1, dF_S, _, rfl, S, vj, e.1, e.1, rfl, rfl, gS2, ixn (by rw [lvj]; exact lt), ?_⟩
      refine ⟨_, _, _, rfl, fun q o z e => by rw [upd_ne z]; exact ks q o z e, fun q a => ?_, upd_same, ?_⟩
      · by_cases z : q = S
        · rw [z, upd_same]; intro z; cases z
        · rw [upd_ne z]; exact nn q a
      · rw [List.take_add_one, he, List.foldl_append]
        exact pair_set pr e.1 ⟨q, rfl, zq, gq, lq⟩
    · rintro σ Hl ⟨y1, y2, vj, rfl, ks, nn, gSl, pr⟩
      rw [lu, List.take_length] at pr
      have gpl := ks _ _ npS h1
      refine ⟨by decide, fun W2 nW2 => ?_⟩
      have nW2p : p ≠ W2 := ne_of_none gpl nW2
      refine ⟨_, rfl, p, C, dx, _, rfl, (by rw [upd_ne nW2p]; exact gpl), TD.cl, TD.n2, (by show 4 < 1000; decide), ?_⟩
      rw [putF_W]
      have kl : ∀ q, q ≠ p → q ≠ W2 → (upd (upd Hl W2 (HO.lst [])) p (HO.ins C dx (dF S W2 s'.cuts v))) q = Hl q := fun q a b => by
        rw [upd_ne a, upd_ne b]
      have kp : (upd (upd Hl W2 (HO.lst [])) p (HO.ins C dx (dF S W2 s'.cuts v))) p = some (HO.ins C dx (dF S W2 s'.cuts v)) := upd_same
      have kW : (upd (upd Hl W2 (HO.lst [])) p (HO.ins C dx (dF S W2 s'.cuts v))) W2 = some (HO.lst []) := by
        rw [upd_ne nW2p.symm, upd_same]
      generalize (upd (upd Hl W2 (HO.lst [])) p (HO.ins C dx (dF S W2 s'.cuts v))) = H9 at *
      have nW2S : W2 ≠ S := fun z => by rw [z, gSl] at nW2; cases nW2
      have hn : ∀ q, H1 q ≠ none → H9 q ≠ none := fun q a => by
        by_cases e1 : q = p
        · rw [e1, kp]; intro z; cases z
        by_cases e2 : q = W2
        · rw [e2, kW]; intro z; cases z
        rw [kl q e1 e2]
        exact nn q a
      have up : ∀ q o, q ≠ p → Hl q = some o → H9 q = some o := fun q o a e => by
        rw [kl q a (fun z => by rw [z, nW2] at e; cases e)]
        exact e
      have up1 : ∀ q o, q ≠ p → q ≠ S → H1 q = some o → H9 q = some o := fun q o a b e => up q o a (ks q o b e)
      have gz : ∀ q, grow Z H H1 q → grow (grow Z H H1) H1 H9 q := fun q z => ⟨.inl z, hn _ (d1.al _ z)⟩
      have kz1 : Kz (grow Z H H1) H1 H9 := fun q o z e => up1 q o (fun y => z (y ▸ z1)) (fun y => z (y ▸ z3)) e
      have d9 : DA C (grow (grow Z H H1) H1 H9) H9 p (flM s') := by
        refine ⟨⟨dx, S, W2, v, vj, [], kp, up1 _ _ (ne_of h2 h1 (by intro z; cases z)) (ne_of h2 h3 (by intro z; cases z)) h2, up _ _ npS.symm gSl, pair_imp pr fun a b => BkR.up fun q b z lb e => ?_, kW, .nil, ?_, gz _ z1, gz _ z2, gz _ z3, ?_, nW2S.symm⟩, ?_, ?_, fun e he => (by cases he), fun q z => z.2⟩
        · exact ⟨gz q z, up1 q _ (ne_of e h1 (by intro z; cases z)) (blk_ne e lb h3 (bk_refs h4)) e⟩
        · revert h7
          show ScR (grow Z H H1) H1 S W v s'.sc → ScR (grow (grow Z H H1) H1 H9) H9 S W2 v s'.sc
          cases s'.sc with
          | none => exact fun z => z
          | some x =>
            obtain ⟨m, t⟩ := x
            exact fun ⟨t1, t2, e, y1, g1, y2, n1, n2, g2, b⟩ => ⟨t1, t2, e, gz _ y1, up1 _ _ (ne_of g1 h1 (by intro z; cases z)) (ne_of g1 h3 (by intro z; cases z)) g1, gz _ y2, n1, (fun z => by rw [z] at g2; exact nn W2 (by rw [g2]; intro z; cases z) nW2), up1 _ _ (ne_of g2 h1 (by intro z; cases z)) n1 g2, b⟩
        · refine ⟨.inr ?_, by rw [kW]; intro z; cases z⟩
          cases e : H1 W2 with
          | none => rfl
          | some o => exact absurd nW2 (nn W2 (by rw [e]; intro z; cases z))
        · show 8 ≤ (s'.wa.foldl flF s'.st).length
          rw [fl_len]
          exact d1.lo
        · show (s'.wa.foldl flF s'.st).length ≤ 400
          rw [fl_len]
          exact d1.hi
      exact q3 H9 (kz.trans kz1) (d9.gg kz)
end
end K5

set_option maxRecDepth 100000
set_option maxHeartbeats 4000000
/-! a new disk; the law's torn writes, its blocks -/
namespace K5
open PySem hiding Tok code
open PySem.Spec PyProof.Rows GD K1 GS
open L2 hiding rest
abbrev sLTorn : Stmt := topS 16
def z32 : List Int := List.replicate 32 0
theorem dF_new {S W : Addr} : putF "scheduled" .non (putF "cuts" (.int 0) (putF "waiting" (.ref W) (putF "stored" (.ref S) []))) = dF S W 0 .non := by
  unfold dF
  simp [putF, show ¬ (("stored" : Str) = "waiting") by decide +kernel, show ¬ (("stored" : Str) = "cuts") by decide +kernel, show ¬ (("waiting" : Str) = "cuts") by decide +kernel, show ¬ (("stored" : Str) = "scheduled") by decide +kernel, show ¬ (("waiting" : Str) = "scheduled") by decide +kernel, show ¬ (("cuts" : Str) = "scheduled") by decide +kernel]
def DS0 (n : Nat) : DS := ⟨List.replicate n z32, [], 0, none⟩
theorem _root_.K1.Bs.wr {b d D : Addr} {ds : List Int} {H H' : Hp} {n n0 : Nat} {o : HO} (h : Bs b d ds H H' n) (x : Box H b d ds n0) (nD : H D = none) : Bs b d ds H (upd H' D o) n := by
  have nb : b ≠ D := ne_of_none x.1 nD
  have nd : d ≠ D := ne_of_none x.2.1 nD
  refine ⟨fun c u nc hc => ?_, ⟨by rw [upd_ne nb]; exact h.box.1, by rw [upd_ne nd]; exact h.box.2.1, h.box.2.2⟩, fun c hc => ?_⟩
  · rw [upd_ne (ne_of_none hc nD)]
    exact h.bx c u nc hc
  · by_cases e : c = D
    · rw [e]; exact nD
    · rw [upd_ne e] at hc
      exact h.free c hc
section
variable {P : Program} {w : World} {K : PySem.W.Frag} {mg : Str → Option Value} {base : Heap} {D C fI : Addr}
def spDInit (C D : Addr) : L2.Sp := fun vs H Q E => ∃ (p dx : Addr) (i : Int), vs = [.ref p, .int i] ∧ H p = some (.ins C dx []) ∧ H dx = some (.own p) ∧
  (∀ n : Nat, i = n → 8 ≤ n → n ≤ 400 → ∀ H' Z, (∀ q o, q ≠ p → H q = some o → H' q = some o) → (∀ q, Z q → q = p ∨ q = dx ∨ H q = none) → DA C Z H' p (DS0 n) → Q .non H') ∧ (i < 8 ∨ 400 < i → OErr E D H "blocks")
theorem scDInit : FnScope ["self", "blocks", "_"] ["self", "blocks"] (defScope mDInit) := ⟨rfl, rfl, rfl, by decide +kernel, rfl, by decide +kernel, by decide +kernel⟩
theorem ok_dinit {f : Addr} {fd fdI : FuncData} (F : Fun K "__init__" "Disk.__init__" mDInit f fd) (T : Txt K mg) (TD : TxD K mg C) (TO : TxO K mg D fI)
    (bI : Binds K fdI ["self", "name"] []) (FI : FnOk P w K mg base CX0 1 fI fdI ["self", "name"] (spOInit D)) : FnOk P w K mg base (L2.CX P w) 3 f fd ["self", "blocks"] (spDInit C D) := by
  have sc := scDInit
  obtain ⟨t1, gBLOCK⟩ := TD.BLOCK
  obtain ⟨t2, gLEAST⟩ := TD.LEAST
  obtain ⟨t3, gMOST⟩ := TD.MOST
  refine F.okX sc (fun vs H Q E h => ?_) (fun cdv A outer s H vs Q E hr h => ?_)
  · obtain ⟨p, dx, i, rfl, _⟩ := h
    rfl
  · obtain ⟨p, dx, i, rfl, hp, hdx, q1, q2⟩ := h
    have hr1 := hr
    refine ⟨_, (pss_cons (ps_if (pt_not (pt_chain op_le op_le (pe_gint rfl gLEAST) (pv 1) (pe_gint rfl gMOST)))
      (pss_one (ps_raise rfl (takes_of rfl rfl rfl rfl) (pmk_oex TO.oc TO.ini TO.tyI FI hr1 bI .nil pass0 rfl TO.g (pa_cons pe_str pa_nil))))
      pss_nil)
      (pss_cons (ps_fld (pv 0) (pe_lc (own := [("_", 2)]) rfl sc.nd (pi_range1 rfl T.range (pa_cons (pv 1) pa_nil)) (blkOk_by (own := [("_", 2)]) (N := ["self", "blocks", "_"]) (sc := defScope mDInit) (by decide +kernel)) (fun _ _ _ _ _ => (pg_name (i := 2) sc.nd rfl (Or.inl rfl))) (fun _ _ _ _ _ => pts_nil) (fun _ _ _ _ _ => (pe_op op_rep (pe_lst (pa_cons pe_int pa_nil)) (pe_gint rfl gBLOCK)))) rfl)
      (pss_cons (ps_fld (pv 0) (pe_lst pa_nil) rfl)
      (pss_cons (ps_fld (pv 0) pe_int rfl)
      (pss_one (ps_fld (pv 0) pe_non rfl)))))), ?_⟩
    refine ⟨_, rfl, _, _, rfl, rfl, _, rfl, ?_⟩
    cases e0 : decide ((8 : Int) ≤ i) with
    | false => exact iteF ⟨_, rfl, iteT (oor_k (Same.refl H) (by decide +kernel) (q2 (.inl (by have := of_decide_eq_false e0; omega))))⟩
    | true =>
    refine iteT ⟨_, _, rfl, rfl, _, rfl, ?_⟩
    cases e1 : decide (i ≤ (400 : Int)) with
    | false => exact iteT (oor_k (Same.refl H) (by decide +kernel) (q2 (.inr (by have := of_decide_eq_false e1; omega))))
    | true =>
    have e0 := of_decide_eq_true e0
    have e1 := of_decide_eq_true e1
    obtain ⟨m, rfl⟩ : ∃ m : Nat, i = m := ⟨i.toNat, by omega⟩
    refine iteF ?_
    refine ⟨_, rfl, _, rfl, by omega, by omega, fun S nS => ?_⟩
    have nSp : p ≠ S := ne_of_none hp nS
    have nSd : dx ≠ S := ne_of_none hdx nS
    refine lc_range (lo := 0) (n := m) (fun j H' => ∃ vj, Same H H' ∧ H' S = some (.lst vj) ∧ Paired (BkR (fun q => H q = none ∧ H' q ≠ none) H') vj (List.replicate j z32))
      ⟨[], Same.lst (Same.refl _) nS, upd_same, .nil⟩ (fun j H1 hj ⟨vj, s1, gS, pr⟩ => ?_) (fun H1 ⟨vj, s1, gS, pr⟩ => ?_)
    · refine ⟨rfl, (by show 1 ≤ sizeLine; decide), fun z nz => ?_⟩
      have s2 : Same H1 (upd H1 z (.lst [V.int 0])) := Same.lst (Same.refl H1) nz
      refine ⟨z, _, _, rfl, rfl, upd_same, by decide, by decide, by decide, fun l nl => ?_⟩
      have ez : (List.replicate (32 : Int).toNat [V.int 0]).flatten = iv z32 := by rw [rep_flat]; exact rep_iv 32 0
      rw [ez] at *
      have s3 : Same H1 (upd (upd H1 z (.lst [V.int 0])) l (.lst (iv z32))) := snew s2 nl
      have gS3 := s3 _ _ gS
      have lvj : vj.length = j := by rw [pair_len pr, List.length_replicate]
      have nlS : l ≠ S := fun y => by rw [y, s2 _ _ gS] at nl; cases nl
      refine ⟨vj, gS3, by rw [lvj]; exact szlt (by omega), vj ++ [.ref l], fun q o e => ?_, upd_same, ?_⟩
      · have e3 := s3 q o (s1 q o e)
        rw [upd_ne (fun y => by rw [y, nS] at e; cases e)]
        exact e3
      · rw [List.replicate_succ']
        have nn : ∀ q, (upd (upd H1 z (.lst [V.int 0])) l (.lst (iv z32))) q ≠ none → upd (upd (upd H1 z (.lst [V.int 0])) l (.lst (iv z32))) S (.lst (vj ++ [.ref l])) q ≠ none := fun q a => by
          by_cases y : q = S
          · rw [y, upd_same]; intro z; cases z
          · rw [upd_ne y]; exact a
        refine pair_snoc (pair_imp pr fun a b => BkR.up fun q b z lb e => ?_) ⟨l, rfl, ⟨sfree (strans s1 s2) nl, nn l (by rw [upd_same]; intro z; cases z)⟩, by rw [upd_ne nlS, upd_same], by decide⟩
        have e3 := s3 _ _ e
        exact ⟨⟨z.1, nn q (by rw [e3]; intro z; cases z)⟩, by rw [upd_ne (blk_ne e lb gS (bk_refs pr))]; exact e3⟩
    have g1 := s1 _ _ hp
    have g2 := s1 _ _ hdx
    refine ⟨_, rfl, p, C, dx, _, rfl, g1, TD.cl, TD.n1, (by show 0 < 1000; decide), ?_⟩
    have nSp1 : S ≠ p := nSp.symm
    refine ⟨by decide, fun W nW => ?_⟩
    have nWp : p ≠ W := ne_of_none upd_same nW
    have nW1 : H1 W = none := by rw [upd_ne nWp.symm] at nW; exact nW
    have nWS : W ≠ S := fun y => by rw [y, gS] at nW1; cases nW1
    refine ⟨_, rfl, p, C, dx, _, rfl, (by rw [upd_ne nWp, upd_same]), TD.cl, TD.n2, (by show 1 < 1000; decide), ?_⟩
    refine ⟨_, rfl, p, C, dx, _, rfl, upd_same, TD.cl, TD.n3, (by show 2 < 1000; decide), ?_⟩
    refine ⟨_, rfl, p, C, dx, _, rfl, upd_same, TD.cl, TD.n4, (by show 3 < 1000; decide), ?_⟩
    rw [dF_new]
    refine q1 m rfl (by omega) (by omega) _ (fun q => (q = p ∨ q = dx ∨ H q = none) ∧ (upd (upd (upd (upd (upd H1 p (.ins C dx (putF "stored" (.ref S) []))) W (.lst [])) p (.ins C dx (putF "waiting" (.ref W) (putF "stored" (.ref S) [])))) p (.ins C dx (putF "cuts" (.int 0) (putF "waiting" (.ref W) (putF "stored" (.ref S) []))))) p (.ins C dx (dF S W 0 .non))) q ≠ none) ?_ (fun q z => z.1) ?_
    all_goals
      have kp : (upd (upd (upd (upd (upd H1 p (.ins C dx (putF "stored" (.ref S) []))) W (.lst [])) p (.ins C dx (putF "waiting" (.ref W) (putF "stored" (.ref S) [])))) p (.ins C dx (putF "cuts" (.int 0) (putF "waiting" (.ref W) (putF "stored" (.ref S) []))))) p (.ins C dx (dF S W 0 .non))) p = some (.ins C dx (dF S W 0 .non)) := upd_same
      have kW : (upd (upd (upd (upd (upd H1 p (.ins C dx (putF "stored" (.ref S) []))) W (.lst [])) p (.ins C dx (putF "waiting" (.ref W) (putF "stored" (.ref S) [])))) p (.ins C dx (putF "cuts" (.int 0) (putF "waiting" (.ref W) (putF "stored" (.ref S) []))))) p (.ins C dx (dF S W 0 .non))) W = some (.lst []) := by
        rw [upd_ne nWp.symm, upd_ne nWp.symm, upd_ne nWp.symm, upd_same]
      have up : ∀ q o, q ≠ p → H1 q = some o → (upd (upd (upd (upd (upd H1 p (.ins C dx (putF "stored" (.ref S) []))) W (.lst [])) p (.ins C dx (putF "waiting" (.ref W) (putF "stored" (.ref S) [])))) p (.ins C dx (putF "cuts" (.int 0) (putF "waiting" (.ref W) (putF "stored" (.ref S) []))))) p (.ins C dx (dF S W 0 .non))) q = some o := fun q o a e => by
        rw [upd_ne a, upd_ne a, upd_ne a, upd_ne (ne_of_none e nW1), upd_ne a]
        exact e
      generalize (upd (upd (upd (upd (upd H1 p (.ins C dx (putF "stored" (.ref S) []))) W (.lst [])) p (.ins C dx (putF "waiting" (.ref W) (putF "stored" (.ref S) [])))) p (.ins C dx (putF "cuts" (.int 0) (putF "waiting" (.ref W) (putF "stored" (.ref S) []))))) p (.ins C dx (dF S W 0 .non))) = H9 at *
    · exact fun q o a e => up q o a (s1 q o e)
    · have nd9 : dx ≠ p := ne_of hdx hp (by intro z; cases z)
      have g29 := up _ _ nd9 g2
      have gS9 := up _ _ nSp1 gS
      refine ⟨⟨dx, S, W, .non, vj, [], kp, g29, gS9, pair_imp pr fun a b => BkR.up fun q b z lb e => ?_, kW, .nil, rfl, ⟨.inl rfl, by rw [kp]; intro z; cases z⟩, ⟨.inr (.inl rfl), by rw [g29]; intro z; cases z⟩, ⟨.inr (.inr nS), by rw [gS9]; intro z; cases z⟩, ⟨.inr (.inr (sfree s1 nW1)), by rw [kW]; intro z; cases z⟩, nWS.symm⟩, ?_, ?_, fun e he => (by cases he), fun q z => z.2⟩
      · have e9 := up q _ (fun y => by rw [y, g1] at e; cases e) e
        exact ⟨⟨.inr (.inr z.1), by rw [e9]; intro z; cases z⟩, e9⟩
      · show 8 ≤ (List.replicate m z32).length
        rw [List.length_replicate]; omega
      · show (List.replicate m z32).length ≤ 400
        rw [List.length_replicate]; omega
theorem okT_snoc {l : List Int} {x : Int} (h : okT l = true) (a : 0 ≤ x) (b : x ≤ 32) : okT (l ++ [x]) = true := by
  unfold okT at *
  rw [List.all_append, h]
  unfold okc
  simp [a, b]
theorem okT_rep (n : Nat) : okT (List.replicate n 32) = true := List.all_eq_true.mpr fun x hx => by
  rw [List.eq_of_mem_replicate hx]
  rfl
def spLTorn : L2.Sp := fun vs H Q _ => ∃ (b d : Addr) (dg : List Int) (n m : Nat), vs = [.ref b, .int (m : Nat)] ∧ Box H b d dg n ∧ m ≤ 1000 ∧
  ∀ H' q tn n', Bs b d dg H H' n' → H q = none → H' q = some (.lst (iv tn)) → okT tn = true → tn.length ≤ 1000 → Q (.ref q) H'
theorem scLTorn : FnScope ["box", "many", "kind", "k"] ["box", "many"] (defScope sLTorn) := ⟨rfl, rfl, rfl, by decide +kernel, rfl, by decide +kernel, by decide +kernel⟩
theorem ok_ltorn {f f1 : Addr} {fd fd1 : FuncData} (F : Fun K "_law_torn" "_law_torn" sLTorn f fd) (T : Txt K mg)
    (FD : FO P w K mg base CX0 1 "_law_draw" ["box", "many"] spDraw f1 fd1) : FnOk P w K mg base CX0 2 f fd ["box", "many"] spLTorn := by
  have sc := scLTorn
  refine F.ok sc (fun vs H Q E h => ?_) (fun cdv A outer s H vs Q E hr h => ?_)
  · obtain ⟨b, d, dg, n, m, rfl, _⟩ := h
    rfl
  · obtain ⟨b, d, dg, n, m, rfl, hB, hm, q⟩ := h
    refine ⟨_, (pss_cons (ps_set (i := 2) sc.nd rfl (Or.inl rfl) (pe_call FD.ok hr (by rfl) FD.m FD.kp FD.b .nil pass0 (pa_cons (pv 0) (pa_cons pe_int pa_nil))))
      (pss_cons (ps_if (pt_cmpR op_eq (pv 2) pe_int (nomark _))
      (pss_one (ps_ret (pe_lst pa_nil)))
      pss_nil)
      (pss_cons (ps_if (pt_cmpR op_eq (pv 2) pe_int (nomark _))
      (pss_one (ps_ret (pe_op op_rep (pe_lst (pa_cons pe_int pa_nil)) (pv 1))))
      pss_nil)
      (pss_cons (ps_if (pt_cmpR op_eq (pv 2) pe_int (nomark _))
      (pss_one (ps_ret (pe_lc (own := [("k", 3)]) rfl sc.nd (pi_range1 rfl T.range (pa_cons (pv 1) pa_nil)) (blkOk_by (own := [("k", 3)]) (N := ["box", "many", "kind", "k"]) (sc := defScope sLTorn) (by decide +kernel)) (fun _ _ _ _ _ => (pg_name (i := 3) sc.nd rfl (Or.inl rfl))) (fun _ _ _ _ _ => pts_nil) (fun _ _ _ _ _ => (pe_op op_mul pe_int (pe_call FD.ok hr (by rfl) FD.m FD.kp FD.b .nil pass0 (pa_cons (pv 0) (pa_cons pe_int pa_nil))))))))
      pss_nil)
      (pss_one (ps_ret (pe_lc (own := [("k", 3)]) rfl sc.nd (pi_range1 rfl T.range (pa_cons (pv 1) pa_nil)) (blkOk_by (own := [("k", 3)]) (N := ["box", "many", "kind", "k"]) (sc := defScope sLTorn) (by decide +kernel)) (fun _ _ _ _ _ => (pg_name (i := 3) sc.nd rfl (Or.inl rfl))) (fun _ _ _ _ _ => pts_nil) (fun _ _ _ _ _ => (pe_call FD.ok hr (by rfl) FD.m FD.kp FD.b .nil pass0 (pa_cons (pv 0) (pa_cons pe_int pa_nil))))))))))), ?_⟩
    have v0 := Bs.refl hB
    refine ⟨_, rfl, b, d, dg, n, 4, rfl, hB, by decide, fun r h0 h1 => ?_⟩
    have v1 := v0.draw
    refine ⟨_, rfl, rfl, _, rfl, ite2 (fun _ => ?_) (fun _ => ?_)⟩
    · refine ⟨by decide, fun l nl => q _ l [] _ (v1.new nl) (v1.free l nl) upd_same rfl (by decide)⟩
    refine ⟨_, rfl, rfl, _, rfl, ite2 (fun _ => ?_) (fun _ => ?_)⟩
    · refine ⟨(by show 1 ≤ sizeLine; decide), fun z nz => ?_⟩
      have v2 := v1.new (o := .lst [V.int 32]) nz
      refine ⟨_, rfl, z, _, _, rfl, rfl, upd_same, by omega, by omega, ?_, fun l nl => ?_⟩
      · show 1 * ((m : Nat) : Int).toNat ≤ sizeLine
        rw [Nat.one_mul, Int.toNat_natCast]
        exact szle (by omega)
      · rw [Int.toNat_natCast, rep_flat, rep_iv]
        refine q _ l (List.replicate m 32) _ (v2.new nl) (v2.free l nl) upd_same (okT_rep m) (by rw [List.length_replicate]; exact hm)
    have comp : ∀ D, (upd H b (.lst [.ref d, .int ((n + 1 : Nat) : Int)])) D = none → Bs b d dg H (upd (upd H b (.lst [.ref d, .int ((n + 1 : Nat) : Int)])) D (.lst [])) (n + 1) := fun D nD => v1.new nD
    refine ⟨_, rfl, rfl, _, rfl, ite2 (fun _ => ?_) (fun _ => ?_)⟩
    · refine ⟨_, rfl, _, rfl, by omega, by omega, fun D nD => ?_⟩
      have fD := v1.free D nD
      have nDb := v1.nb nD
      refine lc_range (lo := 0) (n := m) (fun j H' => ∃ n' tn, Bs b d dg H H' n' ∧ H' D = some (.lst (iv tn)) ∧ tn.length = j ∧ okT tn = true) ⟨_, [], comp D nD, upd_same, rfl, rfl⟩ (fun j H1 hj ⟨n', tn, v2, e, l, o⟩ => ?_) (fun H1 ⟨n', tn, v2, e, l, o⟩ => ?_)
      · refine ⟨rfl, _, rfl, b, d, dg, _, 2, rfl, v2.box, by decide, fun r r0 r1 => ?_⟩
        refine ⟨_, _, rfl, rfl, .inl (by decide), iv tn, by rw [upd_ne nDb]; exact e, by rw [iv_len, l]; exact szlt (by omega), _, tn ++ [32 * r], v2.draw.wr hB fD, by rw [upd_same, iv_snoc], by rw [List.length_append, l]; rfl, okT_snoc o (by omega) (by omega)⟩
      · exact q _ D tn _ v2 fD e o (by omega)
    · refine ⟨_, rfl, _, rfl, by omega, by omega, fun D nD => ?_⟩
      have fD := v1.free D nD
      have nDb := v1.nb nD
      refine lc_range (lo := 0) (n := m) (fun j H' => ∃ n' tn, Bs b d dg H H' n' ∧ H' D = some (.lst (iv tn)) ∧ tn.length = j ∧ okT tn = true) ⟨_, [], comp D nD, upd_same, rfl, rfl⟩ (fun j H1 hj ⟨n', tn, v2, e, l, o⟩ => ?_) (fun H1 ⟨n', tn, v2, e, l, o⟩ => ?_)
      · refine ⟨rfl, _, rfl, b, d, dg, _, 33, rfl, v2.box, by decide, fun r r0 r1 => ?_⟩
        refine ⟨iv tn, by rw [upd_ne nDb]; exact e, by rw [iv_len, l]; exact szlt (by omega), _, tn ++ [r], v2.draw.wr hB fD, by rw [upd_same, iv_snoc], by rw [List.length_append, l]; rfl, okT_snoc o (by omega) (by omega)⟩
      · exact q _ D tn _ v2 fD e o (by omega)
end
end K5

set_option maxRecDepth 100000
set_option maxHeartbeats 4000000
/-! schedule_cut; the law's calls -/
namespace K5
open PySem hiding Tok code
open PySem.Spec PyProof.Rows GD K1 GS
open L2 hiding rest
abbrev sLSched : Stmt := topS 17
abbrev sLDoRaw : Stmt := topS 18
abbrev sLDo : Stmt := topS 19
abbrev sLaw42 : Stmt := topS 20
theorem passes_len {X : Cx} {W : WX} {m : Nat} (tk : Takes X W) (hN : X.N.length = m) : ∀ (pins : List (Addr × Obj)) (σ : L2.St) (H : Hp) (s : Shared) (e : Value) (s' : Shared), Inv X pins σ H s →
    L2.CX X.prog X.w X.stack H s (fun cls d H => ∀ σ : L2.St, σ.length = m → W cls d σ H) e s' → X.xe e s' :=
  fun _ σ _ _ e s' I c => tk e s' (XE.of_call I (fun cls d H' h => h σ (I.len.trans hN)) c)
theorem call_isEd {X : Cx} {a D : Addr} {oe : Obj} {cls : Value} {d : Option Addr} {pn : List (Addr × Obj)} (C : ExcC X.K D) (hz : Zc cls d oe) (hf : ∃ vs, oe.data = .fields vs) :
    CallR (X.suite a ((a, oe) :: pn)) (.builtin "isinstance") (fun xs H Q => cls = .ref D ∧ d = none ∧ rIsE X.K D a xs H Q) := by
  rintro pins s σ H xs us Q I r ⟨ec, ed, h⟩
  subst ec
  subst ed
  exact call_isE C hz hf pins s σ H xs us Q I r h
/-- a call refused is told as a pair -/
def EC (D : Addr) (Q : VK) : XK := fun c d H1 => c = .ref D ∧ ∃ dd z, d = some dd ∧ H1 dd = some (.xd [("name", .str z)]) ∧ ∀ H' q, Same H1 H' → H' q = some (.tup [.str "refused", .str z]) → Q (.ref q) H'
theorem oerr_EC {Q : VK} {H : Hp} {z : Str} (h : ∀ H' q, Same H H' → H' q = some (.tup [.str "refused", .str z]) → Q (.ref q) H') : OErr (EC D Q) D H z :=
  fun d H' s _ gd => ⟨rfl, d, z, rfl, gd, fun H2 q s2 e => h H2 q (strans s s2) e⟩
section
variable {P : Program} {w : World} {K : PySem.W.Frag} {mg : Str → Option Value} {base : Heap} {D C PC fI CM : Addr}
def spSched (C D : Addr) : L2.Sp := fun vs H Q E => ∃ (Z : Addr → Prop) (p : Addr) (s : DS) (i : Int) (t : Addr) (tn : List Int), vs = [.ref p, .int i, .ref t] ∧ DA C Z H p s ∧ H t = some (.lst (iv tn)) ∧ tn.length ≤ 1000 ∧
  (i < 0 ∨ 100000 < i → OErr E D H "many") ∧ ∀ n : Nat, i = n → n ≤ 100000 → (okT tn = false → OErr E D H "torn") ∧ (okT tn = true → ∀ H', Kz Z H H' → DA C (grow Z H H') H' p ⟨s.st, s.wa, s.cuts, some (n, tn)⟩ → Q .non H')
theorem scSched : FnScope ["self", "many", "torn"] ["self", "many", "torn"] (defScope mSched) := ⟨rfl, rfl, rfl, by decide +kernel, rfl, by decide +kernel, by decide +kernel⟩
theorem ok_sched {f f1 : Addr} {fd fd1 fdI : FuncData} (F : Fun K "schedule_cut" "Disk.schedule_cut" mSched f fd) (T : Txt K mg) (TD : TxD K mg C) (TS : ∃ t, mg "SCHEDULE_MOST" = some (.int 100000 t)) (TO : TxO K mg D fI)
    (bI : Binds K fdI ["self", "name"] []) (FI : FnOk P w K mg base CX0 1 fI fdI ["self", "name"] (spOInit D))
    (FT : FO P w K mg base (L2.CX P w) 3 "check_torn" ["torn"] (spTornC D) f1 fd1) : FnOk P w K mg base (L2.CX P w) 4 f fd ["self", "many", "torn"] (spSched C D) := by
  have sc := scSched
  obtain ⟨t1, gSCHED⟩ := TS
  refine F.okX sc (fun vs H Q E h => ?_) (fun cdv A outer s H vs Q E hr h => ?_)
  · obtain ⟨Z, p, ds, i, t, tn, rfl, _⟩ := h
    rfl
  · obtain ⟨Z, p, ds, i, t, tn, rfl, da, ht, hl, q1, q2⟩ := h
    have hr1 : Room 2 _ := hr.mono (by decide)
    refine ⟨_, (pss_cons (ps_if (pt_not (pt_chain op_le op_le pe_int (pv 1) (pe_gint rfl gSCHED)))
      (pss_one (ps_raise rfl (takes_of rfl rfl rfl rfl) (pmk_oex TO.oc TO.ini TO.tyI FI hr1 bI .nil pass0 rfl TO.g (pa_cons pe_str pa_nil))))
      pss_nil)
      (pss_cons (ps_expr (pe_call FT.ok hr (by rfl) FT.m FT.kp FT.b .nil passE (pa_cons (pv 2) pa_nil)))
      (pss_one (ps_fld (pv 0) (pe_tup (pa_cons (pv 1) (pa_cons (pe_callTy call_list_of (by rfl) T.blist (by decide +kernel) (pa_cons (pv 2) pa_nil)) pa_nil))) rfl)))), ?_⟩
    refine ⟨_, rfl, _, _, rfl, rfl, _, rfl, ?_⟩
    cases e0 : decide ((0 : Int) ≤ i) with
    | false => exact iteF ⟨_, rfl, iteT (oor_k (Same.refl H) (by decide +kernel) (q1 (.inl (by have := of_decide_eq_false e0; omega))))⟩
    | true =>
    refine iteT ⟨_, _, rfl, rfl, _, rfl, ?_⟩
    cases e1 : decide (i ≤ (100000 : Int)) with
    | false => exact iteT (oor_k (Same.refl H) (by decide +kernel) (q1 (.inr (by have := of_decide_eq_false e1; omega))))
    | true =>
    have e0 := of_decide_eq_true e0
    have e1 := of_decide_eq_true e1
    obtain ⟨m, rfl⟩ : ∃ m : Nat, i = m := ⟨i.toNat, by omega⟩
    obtain ⟨q3, q4⟩ := q2 m rfl (by omega)
    refine iteF ?_
    refine ⟨_, rfl, t, tn, rfl, ht, hl, fun ho H1 s1 => ?_, fun ho => q3 ho⟩
    have da1 := da.sm s1
    obtain ⟨dx, S, W, v, vs, us, h1, h2, h3, h4, h5, h6, h7, z1, z2, z3, z4, n⟩ := da1.ex
    refine ⟨_, rfl, _, rfl, t, _, rfl, .inl (SqL.of (s1 _ _ ht)), fun l nl => ⟨(by show 2 ≤ sizeLine; decide), fun t3 n3 => ?_⟩⟩
    have s2 : Same H1 (upd H1 l (.lst (iv tn))) := Same.lst (Same.refl H1) nl
    have s3 : Same H1 (upd (upd H1 l (.lst (iv tn))) t3 (.tup [.int (m : Nat), .ref l])) := snew s2 n3
    have gt3 : (upd (upd H1 l (.lst (iv tn))) t3 (.tup [.int (m : Nat), .ref l])) t3 = some (.tup [.int (m : Nat), .ref l]) := upd_same
    have gl3 : (upd (upd H1 l (.lst (iv tn))) t3 (.tup [.int (m : Nat), .ref l])) l = some (.lst (iv tn)) := by rw [upd_ne (ne_of_none upd_same n3), upd_same]
    have n30 : H1 t3 = none := sfree s2 n3
    generalize (upd (upd H1 l (.lst (iv tn))) t3 (.tup [.int (m : Nat), .ref l])) = H3 at *
    refine ⟨_, rfl, p, C, dx, _, rfl, s3 _ _ h1, TD.cl, TD.n4, (by show 4 < 1000; decide), ?_⟩
    rw [putF_s]
    have n3p : t3 ≠ p := fun y => by rw [y, h1] at n30; cases n30
    have nlp : l ≠ p := fun y => by rw [y, h1] at nl; cases nl
    have kp : upd H3 p (.ins C dx (dF S W ds.cuts (.ref t3))) p = some (.ins C dx (dF S W ds.cuts (.ref t3))) := upd_same
    have kt : upd H3 p (.ins C dx (dF S W ds.cuts (.ref t3))) t3 = some (.tup [.int (m : Nat), .ref l]) := by rw [upd_ne n3p]; exact gt3
    have kl : upd H3 p (.ins C dx (dF S W ds.cuts (.ref t3))) l = some (.lst (iv tn)) := by rw [upd_ne nlp]; exact gl3
    have up : ∀ q o, q ≠ p → H1 q = some o → upd H3 p (.ins C dx (dF S W ds.cuts (.ref t3))) q = some o := fun q o a e => by
      rw [upd_ne a]
      exact s3 q o e
    generalize upd H3 p (.ins C dx (dF S W ds.cuts (.ref t3))) = H9 at *
    have hn : ∀ q, H1 q ≠ none → H9 q ≠ none := fun q a => by
      by_cases e1 : q = p
      · rw [e1, kp]; intro z; cases z
      · cases e : H1 q with
        | none => exact absurd e a
        | some o => rw [up q o e1 e]; intro z; cases z
    have gz : ∀ q, Z q → grow Z H1 H9 q := fun q z => ⟨.inl z, hn _ (da1.al _ z)⟩
    have nlS : l ≠ S := fun y => by rw [y, h3] at nl; cases nl
    have nlW : l ≠ W := fun y => by rw [y, h5] at nl; cases nl
    refine q4 ho H9 (fun q o z e => up q o (fun y => z (y ▸ z1)) (s1 q o e)) (DA.pre s1 ⟨⟨dx, S, W, .ref t3, vs, us, kp, up _ _ (ne_of h2 h1 (by intro z; cases z)) h2, up _ _ (ne_of h3 h1 (by intro z; cases z)) h3, pair_imp h4 fun a b => BkR.up fun q b z lb e => ⟨gz q z, up _ _ (ne_of e h1 (by intro z; cases z)) e⟩,
      up _ _ (ne_of h5 h1 (by intro z; cases z)) h5, pair_imp h6 fun a b => WtR.up (fun q b z lb e => ⟨gz q z, up _ _ (ne_of e h1 (by intro z; cases z)) e⟩) (fun q xs z e => ⟨gz q z, up _ _ (ne_of e h1 (by intro z; cases z)) e⟩),
      ⟨t3, l, rfl, ⟨.inr n30, by rw [kt]; intro z; cases z⟩, kt, ⟨.inr nl, by rw [kl]; intro z; cases z⟩, nlS, nlW, kl, fun x hx => ?_⟩, gz _ z1, gz _ z2, gz _ z3, gz _ z4, n⟩, da.lo, da.hi, da.pl, fun q z => z.2⟩)
    have := List.all_eq_true.mp ho x hx
    unfold okc at this
    rw [Bool.and_eq_true] at this
    exact ⟨of_decide_eq_true this.1, of_decide_eq_true this.2⟩
def spLSched (C D : Addr) : L2.Sp := fun vs H Q _ => spSched C D vs H Q (EC D Q)
theorem scLSched : FnScope ["disk", "count", "torn", "e"] ["disk", "count", "torn"] (defScope sLSched) := ⟨rfl, rfl, rfl, by decide +kernel, rfl, by decide +kernel, by decide +kernel⟩
theorem ok_lsched {f f1 : Addr} {fd fd1 : FuncData} (F : Fun K "_law_schedule" "_law_schedule" sLSched f fd) (TD : TxD K mg C) (TO : TxO K mg D fI)
    (MS : MO P w K mg base (L2.CX P w) 4 C "schedule_cut" ["self", "many", "torn"] (spSched C D) f1 fd1) : FnOk P w K mg base CX0 5 f fd ["disk", "count", "torn"] (spLSched C D) := by
  have sc := scLSched
  refine F.ok sc (fun vs H Q E h => ?_) (fun cdv A outer s H vs Q E hr h => ?_)
  · obtain ⟨Z, p, ds, i, t, tn, rfl, _⟩ := h
    rfl
  · obtain ⟨Z, p, ds, i, t, tn, rfl, da, ht, hl, q1, q2⟩ := h
    refine ⟨_, (pss_one (ps_tryA (tb := fun W => tRet (tMeth C "schedule_cut" (spSched C D) [] (fun cls d H => ∀ σ : L2.St, σ.length = 4 → W cls d σ H) (tVar 0) (tCons (tVar 1) (tCons (tVar 2) tNil)))) (Wout := fun _ _ _ _ => False) rfl rfl sc.nd takes0
        (fun W pn xe tk po => pss_one (ps_ret (pe_meth (E := fun cls d H => ∀ σ : L2.St, σ.length = 4 → W cls d σ H) (pv 0) TD.cl MS.mt MS.ok hr MS.bi .nil (passes_len tk rfl) (pa_cons (pv 1) (pa_cons (pv 2) pa_nil)))))
        (Clauses.named (i := 3) ⟨rfl, by decide, .inl TO.g⟩ rfl rfl (fun a oe cls d pn zc hf => pss_one (ps_ret (pe_tup (pa_cons pe_str (pa_cons (pe_xf TO.xf TO.noName zc hf (pv 3)) pa_nil))))) .nil))), ?_⟩
    obtain ⟨dx0, S0, W0, v0, vs0, us0, h10, _⟩ := da.ex
    have en : ∀ cls d H1, EC D Q cls d H1 → ∀ σ : L2.St, σ.length = 4 → wA K (fun _ _ _ _ => False) { nx := fun x H' => Q V.non H', rt := Q }
        [(Value.ref D, some 3, fun a cls d => tRet (tTup (tCons (tC (V.str "refused")) (tCons (tXf a cls d D "name" (tVar 3)) tNil))))] cls d σ H1 := fun cls d H1 ⟨ec, dd, z, ed, gd, q⟩ σ hσ => by
      subst ec
      subst ed
      refine ⟨true, TO.eO, fun _ a0 na => ?_, fun z => Bool.noConfusion z⟩
      match σ, hσ with
      | [_, _, _, _], _ =>
        exact ⟨_, rfl, rfl, rfl, dd, _, _, rfl, gd, rfl, (by show 2 ≤ sizeLine; decide), fun t nt => q _ t (Same.lst (Same.refl _) nt) upd_same⟩
    refine ⟨_, rfl, p, dx0, _, rfl, h10, dF_no (by decide +kernel), _, rfl, _, rfl, Z, p, ds, i, t, tn, rfl, da, ht, hl, fun a d H' s n g => en _ _ _ (q1 a d H' s n g), fun n a c => ?_⟩
    obtain ⟨q3, q4⟩ := q2 n a c
    exact ⟨fun a d H' s n g => en _ _ _ (q3 a d H' s n g), q4⟩
def spDoRaw (C D PC : Addr) : L2.Sp := fun vs H Q E => ∃ (Z : Addr → Prop) (p : Addr) (ds : DS) (i : Int) (b : V), vs = [.ref p, .int i, b] ∧ DA C Z H p ds ∧
  ((i = -1 ∧ spFlush C PC [.ref p] H Q E) ∨ (i ≠ -1 ∧ spWrite C D PC [.ref p, .int i, b] H Q E))
theorem scDoRaw : FnScope ["disk", "at", "block"] ["disk", "at", "block"] (defScope sLDoRaw) := ⟨rfl, rfl, rfl, by decide +kernel, rfl, by decide +kernel, by decide +kernel⟩
theorem ok_doraw {f f1 f2 : Addr} {fd fd1 fd2 : FuncData} (F : Fun K "_law_do_raw" "_law_do_raw" sLDoRaw f fd) (TD : TxD K mg C)
    (MW : MO P w K mg base (L2.CX P w) 6 C "write" ["self", "at", "block"] (spWrite C D PC) f1 fd1) (MF : MO P w K mg base (L2.CX P w) 6 C "flush" ["self"] (spFlush C PC) f2 fd2) : FnOk P w K mg base (L2.CX P w) 7 f fd ["disk", "at", "block"] (spDoRaw C D PC) := by
  have sc := scDoRaw
  refine F.okX sc (fun vs H Q E h => ?_) (fun cdv A outer s H vs Q E hr h => ?_)
  · obtain ⟨Z, p, ds, i, b, rfl, _⟩ := h
    rfl
  · obtain ⟨Z, p, ds, i, b, rfl, da, cs⟩ := h
    refine ⟨_, (pss_cons (ps_if (pt_cmpR op_eq (pv 1) (pe_op op_sub pe_int pe_int) (nomark _))
      (pss_one (ps_ret (pe_meth0 (pv 0) TD.cl MF.mt MF.ok hr MF.bi .nil passE)))
      pss_nil)
      (pss_one (ps_ret (pe_meth (pv 0) TD.cl MW.mt MW.ok hr MW.bi .nil passE (pa_cons (pv 1) (pa_cons (pv 2) pa_nil)))))), ?_⟩
    obtain ⟨dx0, S0, W0, v0, vs0, us0, h10, _⟩ := da.ex
    rcases cs with ⟨e, c⟩ | ⟨e, c⟩
    · subst e
      refine ⟨_, rfl, _, _, rfl, rfl, rfl, _, rfl, iteY (decide_eq_true rfl) ?_⟩
      exact ⟨_, rfl, p, dx0, _, rfl, h10, dF_no (by decide +kernel), c⟩
    · refine ⟨_, rfl, _, _, rfl, rfl, rfl, _, rfl, iteE (by exact decide_eq_false fun z => e (by injection z)) ?_⟩
      exact ⟨_, rfl, p, dx0, _, rfl, h10, dF_no (by decide +kernel), _, rfl, _, rfl, c⟩
theorem mono_write {vs : List V} {H : Hp} {Q Q' : VK} {E E' : XK} (h : spWrite C D PC vs H Q E) (hq : ∀ v H, Q v H → Q' v H) (he : ∀ c d H, E c d H → E' c d H) : spWrite C D PC vs H Q' E' := by
  obtain ⟨Z, p, s, i, b, bs, e, da, hb, nb, l, hw, ht, q1, q2⟩ := h
  refine ⟨Z, p, s, i, b, bs, e, da, hb, nb, l, hw, ht, fun a d H' s n g => he _ _ _ (q1 a d H' s n g), fun n a c => ?_⟩
  obtain ⟨q3, q4⟩ := q2 n a c
  refine ⟨fun a d H' s n g => he _ _ _ (q3 a d H' s n g), fun a b => ?_⟩
  obtain ⟨q5, q6⟩ := q4 a b
  exact ⟨fun s' es H' k d => hq _ _ (q5 s' es H' k d), fun es H' k d => he _ _ _ (q6 es H' k d)⟩
theorem mono_flush {vs : List V} {H : Hp} {Q Q' : VK} {E E' : XK} (h : spFlush C PC vs H Q E) (hq : ∀ v H, Q v H → Q' v H) (he : ∀ c d H, E c d H → E' c d H) : spFlush C PC vs H Q' E' := by
  obtain ⟨Z, p, s, e, da, hw, ht, q1, q2⟩ := h
  exact ⟨Z, p, s, e, da, hw, ht, fun s' es H' k d => hq _ _ (q1 s' es H' k d), fun es H' k d => he _ _ _ (q2 es H' k d)⟩
/-- what the power's cut is told as -/
def EC2 (D PC : Addr) (Q : VK) : XK := fun c d H1 => EC D Q c d H1 ∨ (c = .ref PC ∧ d = none ∧ ∀ H' q, Same H1 H' → H' q = some (.tup [.str "refused", .str "cut"]) → Q (.ref q) H')
structure TxE (K : PySem.W.Frag) (mg : Str → Option Value) (D PC CM : Addr) : Prop where
  gM : mg "ModuleError" = some (.ref CM)
  pp : PySem.W.exmOne K (.ref PC) (.ref PC) = some true
  op : PySem.W.exmOne K (.ref D) (.ref PC) = some false
  ec : ExcC K PC
  im : PySem.W.kitOne K (.ref PC) (.ref CM) = some true
  io : PySem.W.kitOne K (.ref PC) (.ref D) = some false
def spDo (C D PC : Addr) : L2.Sp := fun vs H Q _ => spDoRaw C D PC vs H Q (EC2 D PC Q)
theorem scDo : FnScope ["disk", "at", "block", "told", "e"] ["disk", "at", "block"] (defScope sLDo) := ⟨rfl, rfl, rfl, by decide +kernel, rfl, by decide +kernel, by decide +kernel⟩
theorem ok_do {f f1 : Addr} {fd fd1 : FuncData} (F : Fun K "_law_do" "_law_do" sLDo f fd) (TO : TxO K mg D fI) (TP : TxP K mg "PowerCut" PC) (TE : TxE K mg D PC CM) (bi : mg "isinstance" = none)
    (RAW : FO P w K mg base (L2.CX P w) 7 "_law_do_raw" ["disk", "at", "block"] (spDoRaw C D PC) f1 fd1) : FnOk P w K mg base CX0 8 f fd ["disk", "at", "block"] (spDo C D PC) := by
  have sc := scDo
  refine F.ok sc (fun vs H Q E h => ?_) (fun cdv A outer s H vs Q E hr h => ?_)
  · obtain ⟨Z, p, ds, i, b, rfl, _⟩ := h
    rfl
  · obtain ⟨Z, p, ds, i, b, rfl, da, cs⟩ := h
    refine ⟨_, (pss_cons (ps_tryA (tb := fun W => tAsg (tCall (spDoRaw C D PC) [] (fun cls d H => ∀ σ : L2.St, σ.length = 5 → W cls d σ H) (tCons (tVar 0) (tCons (tVar 1) (tCons (tVar 2) tNil)))) (gName 3)) (Wout := fun _ _ _ _ => False) rfl rfl sc.nd takes0
        (fun W pn xe tk po => pss_one (ps_set (i := 3) sc.nd rfl (.inl rfl) (pe_call (E := fun cls d H => ∀ σ : L2.St, σ.length = 5 → W cls d σ H) RAW.ok hr (by rfl) RAW.m RAW.kp RAW.b .nil (passes_len tk rfl) (pa_cons (pv 0) (pa_cons (pv 1) (pa_cons (pv 2) pa_nil))))))
        (Clauses.named (i := 4) ⟨rfl, by decide, .inl TP.g⟩ rfl rfl (fun a oe cls d pn zc hf =>
            pss_cons (ps_if (PW.pt (pw_and (pt_val (pe_callB (call_isEd TE.ec zc hf) (by rfl) bi (by decide +kernel) (pa_cons (pv 4) (pa_cons (pe_glob (v := .ref CM) rfl TE.gM rfl) pa_nil))))
              (pw_and1 (pt_not (pt_val (pe_callB (call_isEd TE.ec zc hf) (by rfl) bi (by decide +kernel) (pa_cons (pv 4) (pa_cons (pe_glob (v := .ref D) rfl TO.g rfl) pa_nil))))))))
              (pss_one (ps_ret (pe_tup (pa_cons pe_str (pa_cons pe_str pa_nil))))) pss_nil)
            (pss_one (ps_ret (pe_tup (pa_cons pe_str (pa_cons pe_str pa_nil))))))
          (Clauses.named (i := 4) ⟨rfl, by decide, .inl TO.g⟩ rfl rfl (fun a oe cls d pn zc hf => pss_one (ps_ret (pe_tup (pa_cons pe_str (pa_cons (pe_xf TO.xf TO.noName zc hf (pv 4)) pa_nil))))) .nil)))
      (pss_one (ps_ret (pv 3)))), ?_⟩
    have nq : ∀ v H1, Q v H1 → (gName 3 v (L2.start ["disk", "at", "block", "told", "e"] [V.ref p, V.int i, b]) H1 fun σ H => (tRet (tVar 3)) { nx := fun x H' => Q V.non H', rt := Q } σ H) := fun v H1 q => ⟨_, rfl, q⟩
    refine ⟨_, rfl, _, rfl, _, rfl, Z, p, ds, i, b, rfl, da, ?_⟩
    rcases cs with ⟨e, c⟩ | ⟨e, c⟩
    · refine .inl ⟨e, mono_flush c nq fun cls d H1 h σ hσ => ?_⟩
      match σ, hσ with
      | [_, _, _, _, _], _ =>
        rcases h with ⟨ec, dd, z, ed, gd, q⟩ | ⟨ec, ed, q⟩
        · subst ec
          subst ed
          exact ⟨false, TE.op, fun z => Bool.noConfusion z, fun _ => ⟨true, TO.eO, fun _ a0 na => ⟨_, rfl, rfl, rfl, dd, _, _, rfl, gd, rfl, (by show 2 ≤ sizeLine; decide), fun t nt => q _ t (Same.lst (Same.refl _) nt) upd_same⟩, fun z => Bool.noConfusion z⟩⟩
        · subst ec
          subst ed
          exact ⟨true, TE.pp, fun _ a0 na => ⟨_, rfl, rfl, rfl, .ref CM, .ref CM, true, rfl, fun u h => h, TE.im, _, rfl, iteT ⟨_, rfl, rfl, rfl, .ref D, .ref D, false, rfl, fun u h => h, TE.io, _, rfl, iteT ⟨(by show 2 ≤ sizeLine; decide), fun t nt => q _ t (Same.lst (Same.refl _) nt) upd_same⟩⟩⟩, fun z => Bool.noConfusion z⟩
    · refine .inr ⟨e, mono_write c nq fun cls d H1 h σ hσ => ?_⟩
      match σ, hσ with
      | [_, _, _, _, _], _ =>
        rcases h with ⟨ec, dd, z, ed, gd, q⟩ | ⟨ec, ed, q⟩
        · subst ec
          subst ed
          exact ⟨false, TE.op, fun z => Bool.noConfusion z, fun _ => ⟨true, TO.eO, fun _ a0 na => ⟨_, rfl, rfl, rfl, dd, _, _, rfl, gd, rfl, (by show 2 ≤ sizeLine; decide), fun t nt => q _ t (Same.lst (Same.refl _) nt) upd_same⟩, fun z => Bool.noConfusion z⟩⟩
        · subst ec
          subst ed
          exact ⟨true, TE.pp, fun _ a0 na => ⟨_, rfl, rfl, rfl, .ref CM, .ref CM, true, rfl, fun u h => h, TE.im, _, rfl, iteT ⟨_, rfl, rfl, rfl, .ref D, .ref D, false, rfl, fun u h => h, TE.io, _, rfl, iteT ⟨(by show 2 ≤ sizeLine; decide), fun t nt => q _ t (Same.lst (Same.refl _) nt) upd_same⟩⟩⟩, fun z => Bool.noConfusion z⟩
end
end K5

set_option maxRecDepth 100000
set_option maxHeartbeats 4000000
/-! the law's own blocks -/
namespace K5
open PySem hiding Tok code
open PySem.Spec PyProof.Rows GD K1 GS
open L2 hiding rest
def EnR (N : Addr → Prop) (H : Hp) : V → Nat × List Int → Prop := fun v e => ∃ t q, v = .ref t ∧ N t ∧ H t = some (.lst [.int (e.1 : Nat), .ref q]) ∧ N q ∧ H q = some (.lst (iv e.2)) ∧ e.2.length = 32
structure LB (N : Addr → Prop) (H : Hp) (bl pd : Addr) (bs : List (List Int)) (ps : List (Nat × List Int)) : Prop where
  ex : ∃ vb vp, H bl = some (.lst vb) ∧ Paired (BkR N H) vb bs ∧ H pd = some (.lst vp) ∧ Paired (EnR N H) vp ps
  nb : N bl
  np : N pd
  ne : pd ≠ bl
theorem LB.keep {N N' : Addr → Prop} {H H' : Hp} {bl pd : Addr} {bs : List (List Int)} {ps : List (Nat × List Int)} (h : LB N H bl pd bs ps) (k : ∀ q o, N q → H q = some o → N' q ∧ H' q = some o) : LB N' H' bl pd bs ps := by
  obtain ⟨vb, vp, h1, h2, h3, h4⟩ := h.ex
  refine ⟨⟨vb, vp, (k _ _ h.nb h1).2, pair_imp h2 fun a b => BkR.up fun q b z _ e => k _ _ z e, (k _ _ h.np h3).2, pair_imp h4 fun a b ⟨t, q, e, z1, g1, z2, g2, l⟩ => ⟨t, q, e, (k _ _ z1 g1).1, (k _ _ z1 g1).2, (k _ _ z2 g2).1, (k _ _ z2 g2).2, l⟩⟩, (k _ _ h.nb h1).1, (k _ _ h.np h3).1, h.ne⟩
section
variable {P : Program} {w : World} {K : PySem.W.Frag} {mg : Str → Option Value} {base : Heap} {D C PC fI CM : Addr}
theorem tnS_none {s : DS} (h : s.sc = none) : (tnS s).length ≤ 1000 := by
  unfold tnS
  rw [h]
  decide
def refD (z : Str) : PyData := .tuple [.str "refused", .str z]
theorem ref_dp {H : Hp} {q : Addr} {z : Str} (h : H q = some (.tup [.str "refused", .str z])) : Dp K H (.ref q) (refD z) := .tup (SqT.of h) (.cons (.str _) (.cons (.str _) .nil))
theorem ref_at : SeqAt.shaped (refD "at") = true := by decide +kernel
theorem ref_block : SeqAt.shaped (refD "block") = true := by decide +kernel
theorem ref_many : SeqAt.shaped (refD "many") = true := by decide +kernel
theorem ref_cut : SeqAt.shaped (refD "cut") = true := by decide +kernel
theorem ref_torn : SeqAt.shaped (refD "torn") = true := by decide +kernel
theorem ref_ne {z : Str} (h : SeqAt.shaped (refD z) = true) : (!PyData.eqv (refD z) (refD z)) = false := by rw [SeqAt.eqv_refl _ (SeqAt.canLay_of_shaped h)]; rfl
theorem Bsame {b d : Addr} {dg : List Int} {H H1 H2 : Hp} {n : Nat} (h : Bs b d dg H H1 n) (s : Same H1 H2) : Bs b d dg H H2 n :=
  ⟨h.bx.trans (Bx.same s), ⟨s _ _ h.box.1, s _ _ h.box.2.1, h.box.2.2⟩, fun c z => h.free c (sfree s z)⟩
theorem DA.bs {Z : Addr → Prop} {H H' : Hp} {p b d : Addr} {ds : DS} {dg : List Int} {n : Nat} (da : DA C Z H p ds) (nb : ¬ Z b) (v : Bs b d dg H H' n) : DA C Z H' p ds :=
  da.same fun q o z e => v.bx q o (fun y => nb (y ▸ z)) e
theorem rd_rep {σ : L2.St} {H : Hp} {Q : VK} {x : Int} {k : Nat} (hk : k ≤ 1000) (q : ∀ H' l, Same H H' → H l = none → H' l = some (.lst (iv (List.replicate k x))) → Q (.ref l) H') :
    (tOp rRep (tLst (tCons (tC (V.int x)) tNil)) (tC (V.int (k : Nat)))) σ H Q := by
  refine ⟨(by show 1 ≤ sizeLine; decide), fun z nz => ?_⟩
  have s1 : Same H (upd H z (.lst [V.int x])) := Same.lst (Same.refl H) nz
  refine ⟨z, _, _, rfl, rfl, upd_same, by omega, by omega, ?_, fun l nl => ?_⟩
  · show 1 * ((k : Nat) : Int).toNat ≤ sizeLine
    rw [Nat.one_mul, Int.toNat_natCast]
    exact szle (by omega)
  · rw [Int.toNat_natCast, rep_flat, rep_iv]
    exact q _ l (snew s1 nl) (sfree s1 nl) upd_same
end
structure Txt5 (mg : Str → Option Value) : Prop where
  all : mg "all" = none
  enumerate : mg "enumerate" = none
  isinstance : mg "isinstance" = none
  max : mg "max" = none
  min : mg "min" = none
theorem cl_all {l : List PyData} (h : ∀ d ∈ l, PyData.canLay0 d = true) : PyData.canLayAll0 l = true := by
  induction l with
  | nil => rfl
  | cons a r ih =>
    rw [PyData.canLayAll0, h a List.mem_cons_self, ih fun d hd => h d (List.mem_cons_of_mem _ hd)]
    rfl
theorem dp_all {l : List PyData} {n : Nat} (h : ∀ d ∈ l, d.depth ≤ n) : PyData.depthAll l ≤ n := by
  induction l with
  | nil => exact Nat.zero_le _
  | cons a r ih =>
    rw [PyData.depthAll]
    exact Nat.max_le.mpr ⟨h a List.mem_cons_self, ih fun d hd => h d (List.mem_cons_of_mem _ hd)⟩
theorem sh_of {d : PyData} (h1 : PyData.canLay0 d = true) (h2 : d.depth ≤ 64) : SeqAt.shaped d = true := by
  unfold SeqAt.shaped
  rw [h1, decide_eq_true h2]
  rfl
def rowD (b : List Int) : PyData := .list (b.map PyData.int)
theorem rowD_cl (b : List Int) : PyData.canLay0 (rowD b) = true := cl_all fun d hd => by
  obtain ⟨i, _, rfl⟩ := List.mem_map.mp hd
  rfl
theorem rowD_dp (b : List Int) : (rowD b).depth ≤ 1 := by
  unfold rowD
  rw [PyData.depth]
  have := dp_all (l := b.map PyData.int) (n := 0) fun d hd => by
    obtain ⟨i, _, rfl⟩ := List.mem_map.mp hd
    rw [PyData.depth]; omega
  omega
theorem iv_dp {K : PySem.W.Frag} {H : Hp} : ∀ b : List Int, DpAll K H (iv b) (b.map PyData.int)
  | [] => .nil
  | i :: r => .cons (.int i) (iv_dp r)
theorem row_sh (b : List Int) : SeqAt.shaped (rowD b) = true := sh_of (rowD_cl _) (Nat.le_trans (rowD_dp _) (by decide))
theorem row_ne (b : List Int) : (!PyData.eqv (rowD b) (rowD b)) = false := by rw [SeqAt.eqv_refl _ (rowD_cl b)]; rfl
theorem kit_list {K : PySem.W.Frag} : PySem.W.kitOne K (.type "list") (.type "list") = some true := by
  unfold PySem.W.kitOne
  rfl
theorem iv_set (l : List Int) (j : Nat) (x : Int) : (iv l).set j (.int x) = iv (l.set j x) := by
  unfold iv
  rw [List.map_set]
theorem en_refs {N : Addr → Prop} {H : Hp} {vs : List V} {ps : List (Nat × List Int)} (h : Paired (EnR N H) vs ps) : ∀ u ∈ vs, ∃ r, u = V.ref r := by
  induction h with
  | nil => intro u hu; cases hu
  | cons a _ ih =>
    intro u hu
    rcases List.mem_cons.mp hu with rfl | hu
    · obtain ⟨q, _, e, _⟩ := a
      exact ⟨q, e⟩
    · exact ih u hu
/-- an entry lies elsewhere than a list of places -/
theorem ent_ne {H : Hp} {t S : Addr} {i : Int} {v : V} {us : List V} (h : H t = some (.lst [.int i, v])) (hS : H S = some (.lst us)) (hu : ∀ u ∈ us, ∃ r, u = V.ref r) : t ≠ S := fun z => by
  rw [z, hS] at h
  injection h with h
  injection h with h
  obtain ⟨r, e⟩ := hu (.int i) (by rw [h]; exact List.mem_cons_self)
  cases e
theorem rd_len {n : Nat} : ∀ (ps : List (Nat × List Int)) (f0 : List Int), f0.length = 32 → (∀ e ∈ ps, e.2.length = 32) → (ps.foldl (fun f e => if e.1 = n then e.2 else f) f0).length = 32
  | [], _, h, _ => h
  | e :: r, f0, h, k => rd_len r (if e.1 = n then e.2 else f0) (by
    split
    · exact k e List.mem_cons_self
    · exact h) fun x hx => k x (List.mem_cons_of_mem _ hx)
theorem pair_mem {α β : Type} {R : α → β → Prop} {l : List α} {m : List β} (h : Paired R l m) {b : β} (hb : b ∈ m) : ∃ a, R a b := by
  induction h with
  | nil => cases hb
  | cons a _ ih =>
    rcases List.mem_cons.mp hb with rfl | hb
    · exact ⟨_, a⟩
    · exact ih hb
theorem step_none {s : DS} (h : s.sc = none) : stepS s = some s := by
  unfold stepS
  rw [h]
theorem cutE_zero {tn : List Int} {st : List (List Int)} {k : Nat} {e : Nat × List Int} (h : tn.length ≤ k) (lt : e.1 < st.length) : cutE tn st k e = st := by
  unfold cutE
  have e0 : (tn.getD k 0).toNat = 0 := by
    rw [List.getD_eq_getElem?_getD, List.getElem?_eq_none h]
    rfl
  rw [e0, List.take_zero, List.nil_append, List.drop_zero, List.getD_eq_getElem?_getD, List.getElem?_eq_getElem lt]
  exact List.set_getElem_self lt
theorem cutL_past (tn : List Int) : ∀ (l : List (Nat × List Int)) (k : Nat) (st : List (List Int)), tn.length ≤ k → (∀ e ∈ l, e.1 < st.length) → cutL tn l k st = st
  | [], _, _, _, _ => rfl
  | e :: r, k, st, h, lt => by
    show cutL tn r (k + 1) (cutE tn st k e) = st
    rw [cutE_zero h (lt e List.mem_cons_self)]
    exact cutL_past tn r (k + 1) st (by omega) fun x hx => lt x (List.mem_cons_of_mem _ hx)
theorem cutL_app (tn : List Int) (l2 : List (Nat × List Int)) : ∀ (l : List (Nat × List Int)) (k : Nat) (st : List (List Int)), cutL tn (l ++ l2) k st = cutL tn l2 (k + l.length) (cutL tn l k st)
  | [], k, st => rfl
  | x :: l, k, st => by
    show cutL tn (l ++ l2) (k + 1) (cutE tn st k x) = cutL tn l2 (k + (l.length + 1)) (cutL tn l (k + 1) (cutE tn st k x))
    rw [cutL_app tn l2 l (k + 1), show k + 1 + l.length = k + (l.length + 1) by omega]
theorem cut_take {tn : List Int} {l : List (Nat × List Int)} {st : List (List Int)} (lt : ∀ e ∈ l, e.1 < st.length) : cutL tn (l.take (min tn.length l.length)) 0 st = cutL tn l 0 st := by
  have h := cutL_app tn (l.drop (min tn.length l.length)) (l.take (min tn.length l.length)) 0 st
  rw [List.take_append_drop] at h
  rw [h]
  by_cases c : tn.length ≤ l.length
  · exact (cutL_past tn (l.drop (min tn.length l.length)) (0 + (l.take (min tn.length l.length)).length) (cutL tn (l.take (min tn.length l.length)) 0 st) (by rw [List.length_take]; omega) (fun e he => by rw [cutL_len]; exact lt e (List.mem_of_mem_drop he))).symm
  · rw [show min tn.length l.length = l.length by omega, List.drop_length]
    rfl
def Nn (Z : Addr → Prop) (b d : Addr) : Addr → Prop := fun q => ¬ Z q ∧ q ≠ b ∧ q ≠ d
/-- the law's heap: the disk, the box, the law's own blocks -/
structure LX (C : Addr) (Z : Addr → Prop) (H : Hp) (p b d : Addr) (dg : List Int) (n : Nat) (bl pd : Addr) (ds : DS) (bs : List (List Int)) (ps : List (Nat × List Int)) : Prop where
  da : DA C Z H p ds
  nb : ¬ Z b
  nd : ¬ Z d
  box : Box H b d dg n
  lb : LB (Nn Z b d) H bl pd bs ps
section
variable {C : Addr} {Z : Addr → Prop} {H H' : Hp} {p b d bl pd : Addr} {dg : List Int} {n n' : Nat} {ds ds' : DS} {cs : List (List Int)} {ps : List (Nat × List Int)}
theorem LX.bs (x : LX C Z H p b d dg n bl pd ds cs ps) (v : Bs b d dg H H' n') : LX C Z H' p b d dg n' bl pd ds cs ps :=
  ⟨x.da.bs x.nb v, x.nb, x.nd, v.box, x.lb.keep fun q o z e => ⟨z, v.bx q o z.2.1 e⟩⟩
theorem LX.sm (x : LX C Z H p b d dg n bl pd ds cs ps) (s : Same H H') : LX C Z H' p b d dg n bl pd ds cs ps := x.bs (Bsame (Bs.refl x.box) s)
theorem LX.op (x : LX C Z H p b d dg n bl pd ds cs ps) (kz : Kz Z H H') (da : DA C (grow Z H H') H' p ds') : LX C (grow Z H H') H' p b d dg n bl pd ds' cs ps := by
  have ng : ∀ q o, ¬ Z q → H q = some o → ¬ grow Z H H' q := fun q o z e g => by
    rcases g.1 with h | h
    · exact z h
    · rw [e] at h; cases h
  exact ⟨da, ng _ _ x.nb x.box.1, ng _ _ x.nd x.box.2.1, ⟨kz _ _ x.nb x.box.1, kz _ _ x.nd x.box.2.1, x.box.2.2⟩, x.lb.keep fun q o z e => ⟨⟨ng q o z.1 e, z.2⟩, kz q o z.1 e⟩⟩
/-- what is new is the law's -/
theorem LX.new (x : LX C Z H p b d dg n bl pd ds cs ps) {q : Addr} (e : H q = none) : Nn Z b d q :=
  ⟨fun z => x.da.al q z e, fun y => (by rw [y, x.box.1] at e; cases e), fun y => (by rw [y, x.box.2.1] at e; cases e)⟩
/-- what the law does to its own -/
theorem LX.own (x : LX C Z H p b d dg n bl pd ds cs ps) {bl' pd' : Addr} {cs' : List (List Int)} {ps' : List (Nat × List Int)} (k : ∀ q o, ¬ Nn Z b d q → H q = some o → H' q = some o) (lb : LB (Nn Z b d) H' bl' pd' cs' ps') : LX C Z H' p b d dg n bl' pd' ds cs' ps' :=
  ⟨x.da.same fun q o z e => k q o (fun y => y.1 z) e, x.nb, x.nd, ⟨k _ _ (fun y => y.2.1 rfl) x.box.1, k _ _ (fun y => y.2.2 rfl) x.box.2.1, x.box.2.2⟩, lb⟩
end
def capI (x : Int) : Int := if (40 : Int) < (if x > 0 then x else 0) then 40 else if x > 0 then x else 0
theorem capI_le (x : Int) : 0 ≤ capI x ∧ capI x ≤ 40 := by
  unfold capI
  split <;> split <;> omega
theorem gn {i : Nat} {v : V} {σ : L2.St} {H : Hp} {Q : L2.St → Hp → Prop} (h : Q (σ.set i (some v)) H) : gName i v σ H Q := h
theorem nxp {u b c : L2.St → Hp → Prop} {r : VK} {σ : L2.St} {H : Hp} (h : u σ H) : (⟨u, r, b, c⟩ : Ends).nx σ H := h
theorem seq_mid {A B : TS} {D : Ends} {σ : L2.St} {H : Hp} (M : L2.St → Hp → Prop) (h2 : ∀ σ' H', M σ' H' → B D σ' H') (h1 : (∀ σ' H', M σ' H' → B D σ' H') → tSeq A B D σ H) : tSeq A B D σ H := h1 h2
def blkD (bs : List (List Int)) : PyData := .list (bs.map rowD)
theorem blkD_sh (bs : List (List Int)) : SeqAt.shaped (blkD bs) = true := by
  refine sh_of (cl_all fun d hd => ?_) ?_
  · obtain ⟨b, _, rfl⟩ := List.mem_map.mp hd
    exact rowD_cl b
  · unfold blkD
    rw [PyData.depth]
    have := dp_all (l := bs.map rowD) (n := 1) fun d hd => by
      obtain ⟨b, _, rfl⟩ := List.mem_map.mp hd
      exact rowD_dp b
    omega
theorem blkD_eq (bs : List (List Int)) : PyData.eqv (blkD bs) (blkD bs) = true := SeqAt.eqv_refl _ (SeqAt.canLay_of_shaped (blkD_sh bs))
end K5

set_option maxRecDepth 100000
set_option maxHeartbeats 16000000
/-! the law -/
namespace K5
open PySem hiding Tok code
open PySem.Spec PyProof.Rows GD K1 GS
open L2 hiding rest
theorem okB_snoc {l : List Int} {x : Int} (h : okB l = true) (a : 0 ≤ x) (b : x ≤ 255) : okB (l ++ [x]) = true := by
  unfold okB at *
  rw [List.all_append, h]
  unfold okb
  simp [a, b]
theorem oerr_EC2 {D PC : Addr} {Q : VK} {H : Hp} {z : Str} (h : ∀ H' q, Same H H' → H' q = some (.tup [.str "refused", .str z]) → Q (.ref q) H') : OErr (EC2 D PC Q) D H z := fun d H' s n g => .inl (oerr_EC h d H' s n g)
theorem blk_dp {K : PySem.W.Frag} {N : Addr → Prop} {H : Hp} {ws : List V} {bs : List (List Int)} (h : Paired (BkR N H) ws bs) : DpAll K H ws (bs.map rowD) := by
  induction h with
  | nil => exact .nil
  | cons a _ ih =>
    obtain ⟨q, rfl, _, k, _⟩ := a
    exact .cons (.lst (SqL.of k) (iv_dp _)) ih
theorem cutM_nil {ds : DS} (h : ∀ e ∈ ds.wa, e.1 < ds.st.length) : cutM ds [] = ⟨ds.st, [], ds.cuts + 1, none⟩ := by
  unfold cutM
  rw [cutL_past [] ds.wa 0 ds.st (Nat.le_refl _) h]
theorem or_mid {t1 t2 : TT} {σ : L2.St} {H : Hp} {Q : Bool → Hp → Prop} {c1 c2 : Bool} (h1 : ∀ Q' : Bool → Hp → Prop, Q' c1 H → t1 σ H Q') (h2 : ∀ Q' : Bool → Hp → Prop, Q' c2 H → t2 σ H Q') (q : Q (c1 || c2) H) : tOr t1 t2 σ H Q := h1 _ (by
  cases c1 with
  | true => exact iteT q
  | false => exact iteF (h2 _ q))
theorem and_mid {t1 t2 : TT} {σ : L2.St} {H : Hp} {Q : Bool → Hp → Prop} (M : Hp → Prop) (hf : ∀ H', M H' → Q false H') (h : (∀ H', M H' → Q false H') → tAnd t1 t2 σ H Q) : tAnd t1 t2 σ H Q := h hf
/-- the law's heap, with its list of torn writes -/
structure LY (C : Addr) (Z : Addr → Prop) (H : Hp) (p b d : Addr) (dg : List Int) (n : Nat) (bl pd tl : Addr) (tn : List Int) (ds : DS) (cs : List (List Int)) (ps : List (Nat × List Int)) : Prop where
  x : LX C Z H p b d dg n bl pd ds cs ps
  nt : Nn Z b d tl
  et : H tl = some (.lst (iv tn))
  ne : tl ≠ pd
section
variable {C : Addr} {Z Z' : Addr → Prop} {H H' : Hp} {p b d bl pd tl : Addr} {dg tn : List Int} {n n' : Nat} {ds ds' : DS} {cs : List (List Int)} {ps : List (Nat × List Int)}
theorem LY.bs (y : LY C Z H p b d dg n bl pd tl tn ds cs ps) (v : Bs b d dg H H' n') : LY C Z H' p b d dg n' bl pd tl tn ds cs ps := ⟨y.x.bs v, y.nt, v.bx _ _ y.nt.2.1 y.et, y.ne⟩
theorem LY.sm (y : LY C Z H p b d dg n bl pd tl tn ds cs ps) (s : Same H H') : LY C Z H' p b d dg n bl pd tl tn ds cs ps := y.bs (Bsame (Bs.refl y.x.box) s)
theorem LY.jump (y : LY C Z H p b d dg n bl pd tl tn ds cs ps) (k : ∀ q o, ¬ Z q → H q = some o → ¬ Z' q ∧ H' q = some o) (da : DA C Z' H' p ds') : LY C Z' H' p b d dg n bl pd tl tn ds' cs ps :=
  ⟨⟨da, (k _ _ y.x.nb y.x.box.1).1, (k _ _ y.x.nd y.x.box.2.1).1, ⟨(k _ _ y.x.nb y.x.box.1).2, (k _ _ y.x.nd y.x.box.2.1).2, y.x.box.2.2⟩, y.x.lb.keep fun q o z e => ⟨⟨(k q o z.1 e).1, z.2⟩, (k q o z.1 e).2⟩⟩,
    ⟨(k _ _ y.nt.1 y.et).1, y.nt.2⟩, (k _ _ y.nt.1 y.et).2, y.ne⟩
theorem k_op (kz : Kz Z H H') : ∀ q o, ¬ Z q → H q = some o → ¬ grow Z H H' q ∧ H' q = some o := fun q o z e => ⟨fun g => g.1.elim z (fun h => by rw [e] at h; cases h), kz q o z e⟩
theorem LY.op (y : LY C Z H p b d dg n bl pd tl tn ds cs ps) (kz : Kz Z H H') (da : DA C (grow Z H H') H' p ds') : LY C (grow Z H H') H' p b d dg n bl pd tl tn ds' cs ps := y.jump (k_op kz) da
theorem LY.own (y : LY C Z H p b d dg n bl pd tl tn ds cs ps) {bl' pd' : Addr} {cs' : List (List Int)} {ps' : List (Nat × List Int)} (k : ∀ q o, q ≠ bl → q ≠ pd → H q = some o → H' q = some o) (et : H' tl = some (.lst (iv tn))) (ne : tl ≠ pd') (lb : LB (Nn Z b d) H' bl' pd' cs' ps') : LY C Z H' p b d dg n bl' pd' tl tn ds cs' ps' :=
  ⟨y.x.own (fun q o nn e => k q o (fun z => nn (z ▸ y.x.lb.nb)) (fun z => nn (z ▸ y.x.lb.np)) e) lb, y.nt, et, ne⟩
theorem iv_ne_refs {tn : List Int} {vs : List V} (l8 : 8 ≤ vs.length) (h : ∀ u ∈ vs, ∃ r, u = V.ref r) : iv tn ≠ vs := fun e => by
  match tn, vs, e, l8, h with
  | [], vs, e, l8, _ =>
    have e : ([] : List V) = vs := e
    rw [← e] at l8
    simp at l8
  | x :: r, vs, e, l8, hb =>
    have e : V.int x :: iv r = vs := e
    obtain ⟨r', e'⟩ := hb (.int x) (by rw [← e]; exact List.mem_cons_self)
    cases e'
theorem LY.nbl (y : LY C Z H p b d dg n bl pd tl tn ds cs ps) (l8 : 8 ≤ cs.length) : tl ≠ bl := fun z => by
  obtain ⟨vb, vp, g1, g2, _⟩ := y.x.lb.ex
  have e := y.et
  rw [z, g1] at e
  injection e with e
  injection e with e
  exact iv_ne_refs (by rw [pair_len g2]; exact l8) (bk_refs g2) e.symm
/-- when the cut comes -/
def SchI (left : Int) (tn : List Int) (sc : Option (Nat × List Int)) : Prop := (left = -1 ∧ sc = none) ∨ ∃ k : Nat, left = k ∧ sc = some (k, tn)
theorem SchI.tnl {left : Int} {tn : List Int} {ds : DS} (h : SchI left tn ds.sc) (l : tn.length ≤ 1000) : (tnS ds).length ≤ 1000 := by
  rcases h with ⟨_, e⟩ | ⟨k, _, e⟩
  · exact tnS_none e
  · unfold tnS
    rw [e]
    exact l
theorem SchI.cut {left : Int} {tn : List Int} {ds : DS} (h : SchI left tn ds.sc) (e : stepS ds = none) : left = 0 ∧ tnS ds = tn := by
  unfold stepS at e
  rcases h with ⟨_, e1⟩ | ⟨k, e0, e1⟩
  · rw [e1] at e; cases e
  · rw [e1] at e
    cases k with
    | zero => exact ⟨e0, by unfold tnS; rw [e1]⟩
    | succ k => cases e
theorem SchI.go {left : Int} {tn : List Int} {ds s' : DS} (h : SchI left tn ds.sc) (e : stepS ds = some s') : left ≠ 0 ∧ SchI (if left > 0 then left - 1 else left) tn s'.sc := by
  unfold stepS at e
  rcases h with ⟨e0, e1⟩ | ⟨k, e0, e1⟩
  · rw [e1] at e
    cases e
    subst e0
    exact ⟨by decide, .inl ⟨rfl, e1⟩⟩
  · rw [e1] at e
    cases k with
    | zero => cases e
    | succ k =>
      cases e
      subst e0
      refine ⟨by omega, .inr ⟨k, ?_, rfl⟩⟩
      rw [if_pos (by omega)]
      omega
def LP (C p b d : Addr) (dg : List Int) (a bl : Addr) (m i : Nat) : L2.St → Hp → Prop := fun σ H => ∃ (Z : Addr → Prop) (n : Nat) (pd tl : Addr) (tn : List Int) (ds : DS) (left : Int) (y5 y10 y11 y12 y13 y14 y15 y16 y17 : Option V),
  σ = [some (.ref a), some (.ref b), some (.int (m : Nat)), some (.ref p), some (.ref bl), y5, some (.ref pd), some (.int left), some (.ref tl), some (.int (ds.cuts : Nat)), y10, y11, y12, y13, y14, y15, y16, y17] ∧
  LY C Z H p b d dg n bl pd tl tn ds ds.st ds.wa ∧ okT tn = true ∧ tn.length ≤ 1000 ∧ SchI left tn ds.sc ∧ ds.st.length = m ∧ ds.wa.length ≤ i
end
section
variable {P : Program} {w : World} {K : PySem.W.Frag} {mg : Str → Option Value} {base : Heap} {D C PC fI CM : Addr}
theorem passF {X : Cx} : Passes (L2.CX X.prog X.w) X (fun _ _ _ => False) := passes_call takes0 fun _ _ _ _ h => h
def spLaw (K : PySem.W.Frag) : L2.Sp := fun vs H Q _ => ∃ (a : Addr) (ns : List Int), vs = [.ref a] ∧ SqL K H a (ns.map V.int) ∧ ∀ H', Q (.bl true) H'
theorem scLaw : FnScope ["script", "box", "size", "disk", "blocks", "k", "pending", "left", "torn", "cuts", "turn", "kind", "handed", "at", "block", "actual", "place", "entry"] ["script"] (defScope sLaw42) := ⟨rfl, rfl, rfl, by decide +kernel, rfl, by decide +kernel, by decide +kernel⟩
theorem ok_law42 {f f0 f1 f2 f3 f4 f5 m1 m2 m3 m4 : Addr} {fd fd0 fd1 fd2 fd3 fd4 fd5 md1 md2 md3 md4 : FuncData} (F : Fun K "law" "law" sLaw42 f fd) (T : Txt K mg) (T2 : Txt5 mg) (T3 : Txt5 mg) (TD : TxD K mg C) (TO : TxO K mg D fI)
    (MD : Mk K C f0) (bD : Binds K fd0 ["self", "blocks"] []) (OD : FnOk P w K mg base (L2.CX P w) 3 f0 fd0 ["self", "blocks"] (spDInit C D))
    (G1 : FO P w K mg base CX0 2 "_law_digits" ["script", "first", "last"] (spDigits K) f1 fd1) (G2 : FO P w K mg base CX0 1 "_law_draw" ["box", "many"] spDraw f2 fd2)
    (G3 : FO P w K mg base CX0 2 "_law_torn" ["box", "many"] spLTorn f3 fd3) (G4 : FO P w K mg base CX0 5 "_law_schedule" ["disk", "count", "torn"] (spLSched C D) f4 fd4)
    (G5 : FO P w K mg base CX0 8 "_law_do" ["disk", "at", "block"] (spDo C D PC) f5 fd5)
    (MK : MO P w K mg base (L2.CX P w) 4 C "cut_power" ["self", "torn"] (spCut C D) m1 md1) (MR : MO P w K mg base (L2.CX P w) 4 C "read" ["self", "at"] (spRead C D) m2 md2)
    (MP : MO P w K mg base CX0 1 C "pending_count" ["self"] (spPend C) m3 md3) (MN : MO P w K mg base CX0 1 C "cut_count" ["self"] (spCuts C) m4 md4) :
    FnOk P w K mg base CX0 9 f fd ["script"] (spLaw K) := by
  have sc := scLaw
  refine F.ok sc (fun vs H Q E h => ?_) (fun cdv A outer s H vs Q E hr h => ?_)
  · obtain ⟨a, ns, rfl, _⟩ := h
    rfl
  · obtain ⟨a, ns, rfl, hS, q⟩ := h
    have hr1 : Room 1 _ := hr.mono (by decide)
    have hr2 : Room 2 _ := hr.mono (by decide)
    have hr4 : Room 4 _ := hr.mono (by decide)
    have hr5 : Room 5 _ := hr.mono (by decide)
    refine ⟨_, (pss_cons (ps_set (i := 1) sc.nd rfl (Or.inr rfl) (pe_lst (pa_cons (pe_call G1.ok hr2 (by rfl) G1.m G1.kp G1.b .nil pass0 (pa_cons (pv 0) (pa_cons pe_int (pa_cons pe_int pa_nil)))) (pa_cons pe_int pa_nil))))
      (pss_cons (ps_set (i := 2) sc.nd rfl (Or.inl rfl) (pe_op op_add pe_int (pe_call G2.ok hr1 (by rfl) G2.m G2.kp G2.b .nil pass0 (pa_cons (pv 1) (pa_cons pe_int pa_nil)))))
      (pss_cons (ps_set (i := 3) sc.nd rfl (Or.inr rfl) (pe_make MD OD hr4 rfl TD.g bD .nil passF (pa_cons (pv 2) pa_nil)))
      (pss_cons (ps_setLc (i := 4) (own := [("k", 5)]) rfl sc.nd rfl rfl (sw_true rfl rfl rfl (by decide +kernel)) (pi_range1 rfl T.range (pa_cons (pv 2) pa_nil)) (blkOk_by (own := [("k", 5)]) (N := ["script", "box", "size", "disk", "blocks", "k", "pending", "left", "torn", "cuts", "turn", "kind", "handed", "at", "block", "actual", "place", "entry"]) (sc := defScope sLaw42) (by decide +kernel)) (fun _ _ _ _ _ => (pg_name (i := 5) sc.nd rfl (Or.inl rfl))) (fun _ _ _ _ _ => pts_nil) (fun _ _ _ _ _ => (pe_op op_rep (pe_lst (pa_cons pe_int pa_nil)) pe_int)))
      (pss_cons (ps_set (i := 6) sc.nd rfl (Or.inl rfl) (pe_lst pa_nil))
      (pss_cons (ps_set (i := 7) sc.nd rfl (Or.inl rfl) (pe_op op_sub pe_int pe_int))
      (pss_cons (ps_set (i := 8) sc.nd rfl (Or.inl rfl) (pe_lst pa_nil))
      (pss_cons (ps_set (i := 9) sc.nd rfl (Or.inl rfl) pe_int)
      (pss_cons (ps_for PassesOwn.never rfl (pi_range1 rfl T.range (pa_cons pe_int pa_nil)) (pg_name (i := 10) sc.nd rfl (Or.inl rfl))
      (pss_cons (ps_set (i := 11) sc.nd rfl (Or.inl rfl) (pe_call G2.ok hr1 (by rfl) G2.m G2.kp G2.b .nil pass0 (pa_cons (pv 1) (pa_cons pe_int pa_nil))))
      (pss_cons (ps_if (PW.pt (pw_or (pt_cmpR op_eq (pv 11) pe_int (nomark _)) (pw_or1 (pt_cmpR op_eq (pv 10) pe_int (nomark _)))))
      (pss_cons (ps_set (i := 7) sc.nd rfl (Or.inl rfl) (pe_call G2.ok hr1 (by rfl) G2.m G2.kp G2.b .nil pass0 (pa_cons (pv 1) (pa_cons pe_int pa_nil))))
      (pss_cons (ps_set (i := 8) sc.nd rfl (Or.inl rfl) (pe_call G3.ok hr2 (by rfl) G3.m G3.kp G3.b .nil pass0 (pa_cons (pv 1) (pa_cons pe_int pa_nil))))
      (pss_cons (ps_set (i := 12) sc.nd rfl (Or.inl rfl) (pe_callTy call_list_of (by rfl) T.blist (by decide +kernel) (pa_cons (pv 8) pa_nil)))
      (pss_cons (ps_if (PW.pt (pw_or (pt_cmpR op_notN (pe_call G4.ok hr5 (by rfl) G4.m G4.kp G4.b .nil pass0 (pa_cons (pv 3) (pa_cons pe_int (pa_cons (pe_lst (pa_cons pe_int pa_nil)) pa_nil)))) pe_non (nomark _)) (pw_or1 (pt_cmpR op_notN (pe_call G4.ok hr5 (by rfl) G4.m G4.kp G4.b .nil pass0 (pa_cons (pv 3) (pa_cons (pv 7) (pa_cons (pv 12) pa_nil)))) pe_non (nomark _)))))
      (pss_one (ps_ret pe_bl))
      pss_nil)
      (pss_cons (ps_expr (pe_bm PySem.F.plainAttrs_list PySem.F.slot_list_append PySem.F.type_list_append mt_append (pv 12) (pa_cons pe_int pa_nil)))
      (pss_cons (ps_if (pt_cmpR (op_neD hr.units) (pe_call G4.ok hr5 (by rfl) G4.m G4.kp G4.b .nil pass0 (pa_cons (pv 3) (pa_cons (pe_ix ix_list (pe_lst (pa_cons (pe_op op_sub pe_int pe_int) (pa_cons pe_int pa_nil))) (pe_call G2.ok hr1 (by rfl) G2.m G2.kp G2.b .nil pass0 (pa_cons (pv 1) (pa_cons pe_int pa_nil))) (fun _ _ => rfl)) (pa_cons (pe_lst (pa_cons pe_int pa_nil)) pa_nil)))) (pe_tup (pa_cons pe_str (pa_cons pe_str pa_nil))) (nomark _))
      (pss_one (ps_ret pe_bl))
      pss_nil)
      (pss_one (ps_if (pt_cmpR (op_neD hr.units) (pe_call G4.ok hr5 (by rfl) G4.m G4.kp G4.b .nil pass0 (pa_cons (pv 3) (pa_cons pe_int (pa_cons (pe_lst (pa_cons pe_int pa_nil)) pa_nil)))) (pe_tup (pa_cons pe_str (pa_cons pe_str pa_nil))) (nomark _))
      (pss_one (ps_ret pe_bl))
      pss_nil))))))))
      (pss_one (ps_if (PW.pt (pw_and (pt_cmpR op_eq (pv 11) pe_int (nomark _)) (pw_and1 (pt_cmpR op_eq (pe_call G2.ok hr1 (by rfl) G2.m G2.kp G2.b .nil pass0 (pa_cons (pv 1) (pa_cons pe_int pa_nil))) pe_int (nomark _)))))
      (pss_cons (ps_expr (pe_meth (pv 3) TD.cl MK.mt MK.ok hr4 MK.bi .nil passF (pa_cons (pe_lst pa_nil) pa_nil)))
      (pss_cons (ps_set (i := 6) sc.nd rfl (Or.inl rfl) (pe_lst pa_nil))
      (pss_cons (ps_set (i := 7) sc.nd rfl (Or.inl rfl) (pe_op op_sub pe_int pe_int))
      (pss_one (ps_set (i := 9) sc.nd rfl (Or.inl rfl) (pe_op op_add (pv 9) pe_int))))))
      (pss_one (ps_if (pt_cmpR op_eq (pv 11) pe_int (nomark _))
      (pss_one (ps_if (PW.pt (pw_or (pt_cmpR (op_neD hr.units) (pe_call G5.ok hr (by rfl) G5.m G5.kp G5.b .nil pass0 (pa_cons (pv 3) (pa_cons (pv 2) (pa_cons (pe_op op_rep (pe_lst (pa_cons pe_int pa_nil)) pe_int) pa_nil)))) (pe_tup (pa_cons pe_str (pa_cons pe_str pa_nil))) (nomark _)) (pw_or1 (pt_cmpR (op_neD hr.units) (pe_call G5.ok hr (by rfl) G5.m G5.kp G5.b .nil pass0 (pa_cons (pv 3) (pa_cons pe_int (pa_cons (pe_op op_rep (pe_lst (pa_cons pe_int pa_nil)) pe_int) pa_nil)))) (pe_tup (pa_cons pe_str (pa_cons pe_str pa_nil))) (nomark _)))))
      (pss_one (ps_ret pe_bl))
      pss_nil))
      (pss_cons (ps_set (i := 13) sc.nd rfl (Or.inl rfl) (pe_op op_sub pe_int pe_int))
      (pss_cons (ps_if (pt_cmpR op_gt (pv 11) pe_int (nomark _))
      (pss_one (ps_set (i := 13) sc.nd rfl (Or.inl rfl) (pe_call G2.ok hr1 (by rfl) G2.m G2.kp G2.b .nil pass0 (pa_cons (pv 1) (pa_cons (pv 2) pa_nil)))))
      pss_nil)
      (pss_cons (ps_setLc (i := 14) (own := [("k", 5)]) rfl sc.nd rfl rfl (sw_true rfl rfl rfl (by decide +kernel)) (pi_range1 rfl T.range (pa_cons pe_int pa_nil)) (blkOk_by (own := [("k", 5)]) (N := ["script", "box", "size", "disk", "blocks", "k", "pending", "left", "torn", "cuts", "turn", "kind", "handed", "at", "block", "actual", "place", "entry"]) (sc := defScope sLaw42) (by decide +kernel)) (fun _ _ _ _ _ => (pg_name (i := 5) sc.nd rfl (Or.inl rfl))) (fun _ _ _ _ _ => pts_nil) (fun _ _ _ _ _ => (pe_op op_add pe_int (pe_call G2.ok hr1 (by rfl) G2.m G2.kp G2.b .nil pass0 (pa_cons (pv 1) (pa_cons pe_int pa_nil))))))
      (pss_cons (ps_set (i := 15) sc.nd rfl (Or.inl rfl) (pe_call G5.ok hr (by rfl) G5.m G5.kp G5.b .nil pass0 (pa_cons (pv 3) (pa_cons (pv 13) (pa_cons (pe_callTy call_list_of (by rfl) T.blist (by decide +kernel) (pa_cons (pv 14) pa_nil)) pa_nil)))))
      (pss_one (ps_if (pt_cmpR op_eq (pv 7) pe_int (nomark _))
      (pss_cons (ps_if (pt_cmpR (op_neD hr.units) (pv 15) (pe_tup (pa_cons pe_str (pa_cons pe_str pa_nil))) (nomark _))
      (pss_one (ps_ret pe_bl))
      pss_nil)
      (pss_cons (ps_for PassesOwn.never rfl (pi_range1 rfl T.range (pa_cons (pe_callB (call_min2 rfl) (by rfl) T2.min (by decide +kernel) (pa_cons (pe_callB call_len_seq (by rfl) T.len (by decide +kernel) (pa_cons (pv 8) pa_nil)) (pa_cons (pe_callB call_len_seq (by rfl) T.len (by decide +kernel) (pa_cons (pv 6) pa_nil)) pa_nil))) pa_nil)) (pg_name (i := 5) sc.nd rfl (Or.inl rfl))
      (pss_cons (ps_set (i := 16) sc.nd rfl (Or.inl rfl) (pe_ix ix_list (pe_ix ix_list (pv 6) (pv 5) (fun _ _ => rfl)) pe_int (fun _ _ => rfl)))
      (pss_one (ps_asg (pe_op op_cat (pe_slice sl_list (pe_ix ix_list (pe_ix ix_list (pv 6) (pv 5) (fun _ _ => rfl)) pe_int (fun _ _ => rfl)) po_none (po_some (pe_ix ix_list (pv 8) (pv 5) (fun _ _ => rfl)))) (pe_slice sl_list (pe_ix ix_list (pv 4) (pv 16) (fun _ _ => rfl)) (po_some (pe_ix ix_list (pv 8) (pv 5) (fun _ _ => rfl))) po_none)) (pg_sub (pv 4) (pv 16) set_list)))))
      (pss_cons (ps_set (i := 6) sc.nd rfl (Or.inl rfl) (pe_lst pa_nil))
      (pss_cons (ps_set (i := 7) sc.nd rfl (Or.inl rfl) (pe_op op_sub pe_int pe_int))
      (pss_one (ps_set (i := 9) sc.nd rfl (Or.inl rfl) (pe_op op_add (pv 9) pe_int)))))))
      (pss_cons (ps_if (pt_cmpR op_notN (pv 15) pe_non (nomark _))
      (pss_one (ps_ret pe_bl))
      pss_nil)
      (pss_cons (ps_if (pt_cmpR op_gt (pv 7) pe_int (nomark _))
      (pss_one (ps_set (i := 7) sc.nd rfl (Or.inl rfl) (pe_op op_sub (pv 7) pe_int)))
      pss_nil)
      (pss_one (ps_if (pt_cmpR op_eq (pv 13) (pe_op op_sub pe_int pe_int) (nomark _))
      (pss_cons (ps_for PassesOwn.never rfl (pi_list (pv 6)) (pg_name (i := 17) sc.nd rfl (Or.inl rfl))
      (pss_one (ps_asg (pe_ix ix_list (pv 17) pe_int (fun _ _ => rfl)) (pg_sub (pv 4) (pe_ix ix_list (pv 17) pe_int (fun _ _ => rfl)) set_list))))
      (pss_one (ps_set (i := 6) sc.nd rfl (Or.inl rfl) (pe_lst pa_nil))))
      (pss_one (ps_expr (pe_bm PySem.F.plainAttrs_list PySem.F.slot_list_append PySem.F.type_list_append mt_append (pv 6) (pa_cons (pe_lst (pa_cons (pv 13) (pa_cons (pv 14) pa_nil))) pa_nil)))))))))))))))))))
      (pss_one (ps_if (PW.pt (pw_or (pt_cmpR op_ne (pe_meth0 (pv 3) TD.cl MP.mt MP.ok hr1 MP.bi .nil pass0) (pe_callB call_len_seq (by rfl) T.len (by decide +kernel) (pa_cons (pv 6) pa_nil)) (nomark _)) (pw_or1 (pt_cmpR op_ne (pe_meth0 (pv 3) TD.cl MN.mt MN.ok hr1 MN.bi .nil pass0) (pv 9) (nomark _)))))
      (pss_one (ps_ret pe_bl))
      pss_nil)))))
      (pss_cons (ps_expr (pe_meth (pv 3) TD.cl MK.mt MK.ok hr4 MK.bi .nil passF (pa_cons (pe_lst pa_nil) pa_nil)))
      (pss_one (ps_ret (pe_cmpR (op_eqD hr.units) (pe_lc (own := [("at", 13)]) rfl sc.nd (pi_range1 rfl T.range (pa_cons (pv 2) pa_nil)) (blkOk_by (own := [("at", 13)]) (N := ["script", "box", "size", "disk", "blocks", "k", "pending", "left", "torn", "cuts", "turn", "kind", "handed", "at", "block", "actual", "place", "entry"]) (sc := defScope sLaw42) (by decide +kernel)) (fun _ _ _ _ _ => (pg_name (i := 13) sc.nd rfl (Or.inl rfl))) (fun _ _ _ _ _ => pts_nil) (fun _ _ _ _ _ => (pe_meth (pv 3) TD.cl MR.mt MR.ok hr4 MR.bi .nil passF (pa_cons (pv 13) pa_nil)))) (pv 4) (nomark _)))))))))))))), ?_⟩
    refine ⟨_, rfl, a, ns, rfl, hS, fun H1 d dg s1 nd ed ld => ⟨(by show 2 ≤ sizeLine; decide), fun b nb => ?_⟩⟩
    have B0 : Box (upd H1 b (.lst [.ref d, .int 0])) b d dg 0 := ⟨upd_same, by rw [upd_ne (ne_of_none ed nb)]; exact ed, ld⟩
    generalize upd H1 b (.lst [.ref d, .int 0]) = H2 at *
    refine ⟨_, rfl, b, d, dg, 0, 4, rfl, B0, by decide, fun r r0 r1 => ⟨_, _, rfl, rfl, ?_⟩⟩
    obtain ⟨j, rfl, hj⟩ := idx (m := 4) r0 r1
    have B4 := ((Bs.refl B0).draw).box
    generalize upd H2 b (.lst [.ref d, .int ((0 + 1 : Nat) : Int)]) = H4 at *
    refine gn ?_
    rw [show ((fun i j => V.int (i + j)) (8 : Int) (j : Int) : V) = V.int ((8 + j : Nat) : Int) from congrArg V.int (by omega)]
    obtain ⟨m, hm, m8, m400⟩ : ∃ m : Nat, 8 + j = m ∧ 8 ≤ m ∧ m ≤ 400 := ⟨8 + j, rfl, by omega, by omega⟩
    rw [hm]
    refine nxp ?_
    refine ⟨_, rfl, fun p dx np ndx nep => ?_⟩
    have s5 : Same H4 (upd (upd H4 dx (.own p)) p (.ins C dx [])) := fun q o e => by rw [upd_ne (ne_of_none e np), upd_ne (ne_of_none e ndx)]; exact e
    refine ⟨p, dx, m, rfl, upd_same, by rw [upd_ne nep, upd_same], fun m' em' n8 n400 H6 Z k6 kz da => ⟨rfl, ?_⟩, fun bad => by omega⟩
    obtain rfl : m = m' := Int.ofNat.inj em'
    have s6 : Same H4 H6 := fun q o e => k6 q o (ne_of_none e np) (s5 q o e)
    have nZ : ∀ q o, H4 q = some o → ¬ Z q := fun q o e z => by
      rcases kz q z with h | h | h
      · rw [h, np] at e; cases e
      · rw [h, ndx] at e; cases e
      · rw [s5 q o e] at h; cases h
    refine ⟨_, rfl, _, rfl, by omega, by omega, fun bl nbl => ?_⟩
    have B6 : Box H6 b d dg _ := ⟨s6 _ _ B4.1, s6 _ _ B4.2.1, B4.2.2⟩
    have nZb := nZ _ _ B4.1
    have nZd := nZ _ _ B4.2.1
    refine lc_range (lo := 0) (n := m) (fun j H' => ∃ vj, Same H6 H' ∧ H' bl = some (.lst vj) ∧ Paired (BkR (Nn Z b d) H') vj (List.replicate j z32))
      ⟨[], Same.lst (Same.refl _) nbl, upd_same, .nil⟩ (fun j H7 hj ⟨vj, s7, gS, pr⟩ => ?_) (fun H7 ⟨vj, s7, gS, pr⟩ => ?_)
    · refine ⟨rfl, ?_⟩
      refine rd_rep (k := 32) (by decide) fun H8 l s8 fl el => ?_
      have gS8 := s8 _ _ gS
      have lvj : vj.length = j := by rw [pair_len pr, List.length_replicate]
      have nlS : l ≠ bl := fun y => by rw [y, gS] at fl; cases fl
      have f6 : H6 l = none := sfree s7 fl
      refine ⟨vj, gS8, by rw [lvj]; exact szlt (by omega), vj ++ [.ref l], fun q o e => ?_, upd_same, ?_⟩
      · rw [upd_ne (fun y => by rw [y, nbl] at e; cases e)]
        exact s8 q o (s7 q o e)
      · rw [List.replicate_succ']
        refine pair_snoc (pair_imp pr fun a b => BkR.up fun q b z lb e => ⟨z, by rw [upd_ne (blk_ne e lb gS (bk_refs pr))]; exact s8 _ _ e⟩) ⟨l, rfl, ⟨fun z => da.al _ z f6, fun y => (by rw [y, B6.1] at f6; cases f6), fun y => (by rw [y, B6.2.1] at f6; cases f6)⟩, by rw [upd_ne nlS]; exact el, by decide⟩
    refine ⟨by decide, fun pd npd => ?_⟩
    have s8 : Same H6 (upd H7 pd (.lst [])) := snew s7 npd
    have npb : pd ≠ bl := fun y => by rw [y, gS] at npd; cases npd
    have nnew : ∀ q, H6 q = none → Nn Z b d q := fun q f6 => ⟨fun z => da.al _ z f6, fun y => (by rw [y, B6.1] at f6; cases f6), fun y => (by rw [y, B6.2.1] at f6; cases f6)⟩
    have x8 : LX C Z (upd H7 pd (.lst [])) p b d dg _ bl pd (DS0 m) (DS0 m).st (DS0 m).wa := ⟨da.sm s8, nZb, nZd, ⟨s8 _ _ B6.1, s8 _ _ B6.2.1, B6.2.2⟩, ⟨⟨vj, [], by rw [upd_ne npb.symm]; exact gS, pair_imp pr fun a b => BkR.up fun q b z lb e => ⟨z, by rw [upd_ne (ne_of_none e npd)]; exact e⟩, upd_same, .nil⟩, nnew _ nbl, nnew _ (sfree s7 npd), npb⟩⟩
    generalize upd H7 pd (.lst []) = H8 at *
    refine ⟨_, _, rfl, rfl, (by decide), fun tl ntl => ?_⟩
    have y9 : LY C Z (upd H8 tl (.lst [])) p b d dg _ bl pd tl [] (DS0 m) (DS0 m).st (DS0 m).wa := ⟨x8.sm (Same.lst (Same.refl H8) ntl), x8.new ntl, upd_same, fun z => by obtain ⟨_, _, _, _, g, _⟩ := x8.lb.ex; rw [z, g] at ntl; cases ntl⟩
    refine ⟨_, rfl, by decide, by decide, for_range (lo := 0) (n := 40) (LP C p b d dg a bl m) ⟨Z, _, pd, tl, [], DS0 m, -1, _, _, _, _, _, _, _, _, _, rfl, y9, rfl, by decide, .inl ⟨rfl, rfl⟩, List.length_replicate, Nat.le_refl _⟩ ?_ ?_⟩
    · rintro i σ H9 hi ⟨Z, n, pd, tl, tn, ds, left, y5, y10, y11, y12, y13, y14, y15, y16, y17, rfl, y, ok, ltn, hsc, hm, hw⟩
      have htnS := hsc.tnl ltn
      refine ⟨_, rfl, b, d, dg, n, 10, rfl, y.x.box, by decide, fun r r0 r1 => ?_⟩
      have y1 := y.bs (Bs.refl y.x.box).draw
      generalize upd H9 b (.lst [.ref d, .int ((n + 1 : Nat) : Int)]) = H10 at *
      have non0 : (!decide (V.non = V.non)) = false := by rw [decide_eq_true rfl]; rfl
      refine gn ?_
      refine nxp ?_
      refine seq_mid (A := tIfS _ _ _) (LP C p b d dg a bl m (i + 1)) ?_ (fun mid => ?_)
      rotate_left
      · refine or_mid (fun Q' q => ⟨_, rfl, rfl, _, rfl, q⟩) (fun Q' q => ⟨_, rfl, rfl, _, rfl, q⟩) (ite2 (fun _ => ?_) (fun _ => ?_))
        · refine ⟨_, rfl, b, d, dg, _, 21, rfl, y1.x.box, by decide, fun rl rl0 rl1 => ?_⟩
          obtain ⟨lf, rfl, hlf⟩ := idx (m := 21) rl0 rl1
          have y2 := y1.bs (Bs.refl y1.x.box).draw
          generalize upd H10 b (.lst [.ref d, .int ((n + 1 + 1 : Nat) : Int)]) = H11 at *
          refine ⟨_, rfl, b, d, dg, _, 9, rfl, y2.x.box, by decide, fun H12 t2 tn2 n2 v2 f2 e2 ok2 l2 => ?_⟩
          have y3 : LY C Z H12 p b d dg n2 bl pd t2 tn2 ds ds.st ds.wa := ⟨y2.x.bs v2, y2.x.new f2, e2, fun z => by obtain ⟨_, _, _, _, g, _⟩ := y2.x.lb.ex; rw [z, g] at f2; cases f2⟩
          refine ⟨_, rfl, t2, _, rfl, .inl (SqL.of e2), fun hd nhd => ?_⟩
          have s13 : Same H12 (upd H12 hd (.lst (iv tn2))) := Same.lst (Same.refl H12) nhd
          have eh13 : upd H12 hd (.lst (iv tn2)) hd = some (.lst (iv tn2)) := upd_same
          generalize upd H12 hd (.lst (iv tn2)) = H13 at *
          have nZh : ¬ Z hd := fun z => y3.x.da.al _ z nhd
          refine ⟨_, rfl, (by show 1 ≤ sizeLine; decide), fun t4 nt4 => ?_⟩
          have s14 : Same H13 (upd H13 t4 (.lst [.int 32])) := Same.lst (Same.refl H13) nt4
          have e4 : upd H13 t4 (.lst [.int 32]) t4 = some (.lst (iv [32])) := upd_same
          have y4 := (y3.sm s13).sm s14
          generalize upd H13 t4 (.lst [.int 32]) = H14 at *
          have eh14 := s14 _ _ eh13
          refine ⟨Z, p, ds, 100000, t4, [32], rfl, y4.x.da, e4, by decide, fun z => by omega, fun n' en le => ⟨fun z => absurd z (by decide), fun _ H15 kz1 d15 => ?_⟩⟩
          refine ⟨rfl, _, rfl, iteE non0 ?_⟩
          have k1 := k_op kz1
          have eh15 := k1 _ _ nZh eh14
          refine ⟨_, rfl, _, rfl, _, rfl, grow Z H14 H15, p, _, (lf : Nat), hd, tn2, rfl, d15, eh15.2, l2, fun z => by omega, fun n'' en' le' => ⟨fun z => (by rw [ok2] at z; cases z), fun _ H16 kz2 d16 => ?_⟩⟩
          obtain rfl : lf = n'' := Int.ofNat.inj en'
          refine ⟨rfl, _, rfl, iteE non0 ?_⟩
          have k2 := k_op kz2
          have eh16 := k2 _ _ eh15.1 eh15.2
          refine ⟨_, rfl, .inl ⟨rfl, _, SqL.of eh16.2⟩, hd, _, _, rfl, rfl, eh16.2, by rw [iv_len]; exact szlt (by omega), ?_⟩
          have y17 : LY C (grow (grow Z H14 H15) H15 H16) (upd H16 hd (.lst (iv tn2 ++ [.int 1]))) p b d dg n2 bl pd t2 tn2 ⟨ds.st, ds.wa, ds.cuts, some (lf, tn2)⟩ ds.st ds.wa := y3.jump (fun q o z e => by
              have e14 := s14 _ _ (s13 _ _ e)
              have a1 := k1 q o z e14
              have a2 := k2 q o a1.1 a1.2
              exact ⟨a2.1, by rw [upd_ne (ne_of_none e nhd)]; exact a2.2⟩) (d16.same fun q o z e => by
              rw [upd_ne (fun y : q = hd => eh16.1 (y ▸ z))]
              exact e)
          generalize upd H16 hd (.lst (iv tn2 ++ [.int 1])) = H17 at *
          have v17 := Bs.refl y17.x.box
          refine ⟨_, rfl, _, _, rfl, rfl, (by show 2 ≤ sizeLine; decide), fun t18 nt18 => ?_⟩
          have v18 := v17.new (o := .lst [V.int (0 - 1), .int 100001]) nt18
          have nt18b := v17.nb nt18
          refine ⟨_, rfl, b, d, dg, _, 2, rfl, v18.box, by decide, fun rr rr0 rr1 => ?_⟩
          obtain ⟨jj, rfl, hjj⟩ := idx (m := 2) rr0 rr1
          obtain ⟨vi, hvi, bad⟩ : ∃ vi : Int, [V.int (0 - 1), .int 100001][jj]? = some (.int vi) ∧ (vi < 0 ∨ 100000 < vi) := by
            match jj, hjj with
            | 0, _ => exact ⟨_, rfl, .inl (by decide)⟩
            | 1, _ => exact ⟨_, rfl, .inr (by decide)⟩
          have v19 := v18.draw
          refine ⟨t18, _, _, _, rfl, rfl, SqL.of (by rw [upd_ne nt18b]; exact upd_same), atI_nat hvi, (by show 1 ≤ sizeLine; decide), fun t20 nt20 => ?_⟩
          have v20 := v19.new (o := .lst [V.int 33]) nt20
          refine ⟨_, p, _, vi, t20, [33], rfl, y17.x.da.bs y17.x.nb v20, upd_same, by decide, fun _ => oerr_EC (fun H21 q21 s21 e21 => ?_), fun n en le => by omega⟩
          refine ⟨(by show 2 ≤ sizeLine; decide), fun t22 nt22 => ⟨refD "many", refD "many", ref_dp ((Same.lst (Same.refl _) nt22) _ _ e21), ref_dp upd_same, ref_many, ref_many, _, rfl, iteE (ref_ne ref_many) ?_⟩⟩
          have v22 := (Bsame v20 s21).new (o := .tup [.str "refused", .str "many"]) nt22
          refine ⟨_, rfl, (by show 1 ≤ sizeLine; decide), fun t23 nt23 => ?_⟩
          have v23 := v22.new (o := .lst [V.int 33]) nt23
          refine ⟨_, p, _, 3, t23, [33], rfl, y17.x.da.bs y17.x.nb v23, upd_same, by decide, fun z => by omega, fun n en le => ⟨fun _ => oerr_EC (fun H24 q24 s24 e24 => ?_), fun z => absurd z (by decide)⟩⟩
          refine ⟨(by show 2 ≤ sizeLine; decide), fun t25 nt25 => ⟨refD "torn", refD "torn", ref_dp ((Same.lst (Same.refl _) nt25) _ _ e24), ref_dp upd_same, ref_torn, ref_torn, _, rfl, iteE (ref_ne ref_torn) ?_⟩⟩
          have v25 := (Bsame v23 s24).new (o := .tup [.str "refused", .str "torn"]) nt25
          exact mid _ _ ⟨_, _, pd, t2, tn2, ⟨ds.st, ds.wa, ds.cuts, some (lf, tn2)⟩, (lf : Nat), y5, _, _, _, _, _, _, _, _, rfl, y17.bs v25, ok2, l2, .inr ⟨lf, rfl, rfl⟩, hm, Nat.le_succ_of_le hw⟩
        refine and_mid (fun H' => ∃ n', LY C Z H' p b d dg n' bl pd tl tn ds ds.st ds.wa) ?_ (fun els => ?_)
        rotate_left
        · refine ⟨_, rfl, rfl, _, rfl, ite2 (fun _ => ?_) (fun _ => els _ ⟨_, y1⟩)⟩
          refine ⟨_, rfl, b, d, dg, _, 4, rfl, y1.x.box, by decide, fun r r0 r1 => ⟨rfl, _, rfl, ?_⟩⟩
          have y2 := y1.bs (Bs.refl y1.x.box).draw
          generalize upd H10 b (.lst [.ref d, .int ((n + 1 + 1 : Nat) : Int)]) = H11 at *
          cases hz : decide (V.int r = V.int 0) with
          | false => exact els _ ⟨_, y2⟩
          | true =>
            refine iteT ?_
            obtain ⟨dx, S, W, v, vs, us, hp, _⟩ := y2.x.da.ex
            refine ⟨_, rfl, p, dx, _, rfl, hp, dF_no (by decide +kernel), by decide, fun t0 nt0 => ?_⟩
            have y3 := y2.sm (Same.lst (Same.refl _) nt0 : Same H11 (upd H11 t0 (.lst [])))
            refine ⟨Z, p, ds, t0, [], rfl, y3.x.da, upd_same, by decide, by omega, fun _ H13 kz d13 => ?_, fun z => absurd z (by decide)⟩
            rw [cutM_nil y2.x.da.pl] at d13
            have y13 := y3.op kz d13
            obtain ⟨vb, vp, g1, g2, g3, g4⟩ := y13.x.lb.ex
            refine ⟨by decide, fun pd2 np2 => ?_⟩
            have s14 : Same H13 (upd H13 pd2 (.lst [])) := Same.lst (Same.refl _) np2
            have n2b : pd2 ≠ bl := fun y => by rw [y, g1] at np2; cases np2
            have y14 := y13.own (fun q o _ _ e => s14 q o e) (s14 _ _ y13.et) (fun z => by rw [← z, y13.et] at np2; cases np2) (bl' := bl) (pd' := pd2) (cs' := ds.st) (ps' := []) ⟨⟨vb, [], s14 _ _ g1, pair_imp g2 fun a b => BkR.up fun q b z lb e => ⟨z, s14 _ _ e⟩, upd_same, .nil⟩, y13.x.lb.nb, y13.x.new np2, n2b⟩
            exact ⟨_, _, rfl, rfl, _, rfl, _, _, rfl, rfl, mid _ _ ⟨_, _, pd2, tl, tn, ⟨ds.st, [], ds.cuts + 1, none⟩, -1, y5, _, _, _, _, _, _, _, _, rfl, y14, ok, ltn, .inl ⟨rfl, rfl⟩, hm, Nat.zero_le _⟩⟩
        · rintro H11 ⟨n', y2⟩
          refine iteF ?_
          refine ⟨_, rfl, rfl, _, rfl, ite2 (fun _ => ?_) (fun _ => ?_)⟩
          · refine ⟨_, rfl, _, rfl, rd_rep (k := 32) (by decide) fun H12 l1 s1 f1 e1 => ?_⟩
            have y3 := y2.sm s1
            refine ⟨Z, p, ds, (m : Nat), .ref l1, rfl, y3.x.da, .inr ⟨by omega, Z, p, ds, (m : Nat), l1, _, rfl, y3.x.da, e1, fun z => y2.x.da.al _ z f1, by decide, by omega, htnS, fun _ => oerr_EC2 (fun H13 q13 s13 e13 => ?_), fun n en lt => by omega⟩⟩
            refine ⟨(by show 2 ≤ sizeLine; decide), fun t14 nt14 => ⟨refD "at", refD "at", ref_dp ((Same.lst (Same.refl _) nt14) _ _ e13), ref_dp upd_same, ref_at, ref_at, _, rfl, iteE (ref_ne ref_at) ?_⟩⟩
            have y4 := (y3.sm s13).sm (Same.lst (Same.refl _) nt14 : Same H13 (upd H13 t14 (.tup [.str "refused", .str "at"])))
            refine ⟨_, rfl, rd_rep (k := 31) (by decide) fun H15 l2 s2 f2 e2 => ?_⟩
            have y5' := y4.sm s2
            refine ⟨Z, p, ds, 0, .ref l2, rfl, y5'.x.da, .inr ⟨by omega, Z, p, ds, 0, l2, _, rfl, y5'.x.da, e2, fun z => y4.x.da.al _ z f2, by decide, by omega, htnS, fun z => by omega, fun n en lt => ⟨fun _ => oerr_EC2 (fun H16 q16 s16 e16 => ?_), fun z => absurd z (by decide)⟩⟩⟩
            refine ⟨(by show 2 ≤ sizeLine; decide), fun t17 nt17 => ⟨refD "block", refD "block", ref_dp ((Same.lst (Same.refl _) nt17) _ _ e16), ref_dp upd_same, ref_block, ref_block, _, rfl, iteE (ref_ne ref_block) ?_⟩⟩
            have y6 := (y5'.sm s16).sm (Same.lst (Same.refl _) nt17 : Same H16 (upd H16 t17 (.tup [.str "refused", .str "block"])))
            exact mid _ _ ⟨Z, _, pd, tl, tn, ds, left, y5, _, _, _, _, _, _, _, _, rfl, y6, ok, ltn, hsc, hm, Nat.le_succ_of_le hw⟩
          · refine ⟨_, _, rfl, rfl, ?_⟩
            refine gn ?_
            refine nxp ?_
            refine seq_mid (A := tIfS _ _ _) (fun σ' H' => ∃ (n3 : Nat) (at_ : Int), (at_ = -1 ∨ ∃ k : Nat, at_ = k ∧ k < m) ∧ σ' = [some (.ref a), some (.ref b), some (.int (m : Nat)), some (.ref p), some (.ref bl), y5, some (.ref pd), some (.int left), some (.ref tl), some (.int (ds.cuts : Nat)), some (.int (0 + (i : Nat))), some (.int r), y12, some (.int at_), y14, y15, y16, y17] ∧
              LY C Z H' p b d dg n3 bl pd tl tn ds ds.st ds.wa) ?_ (fun mid2 => ?_)
            rotate_left
            · refine ⟨_, rfl, _, _, rfl, rfl, _, rfl, ite2 (fun _ => ?_) (fun _ => mid2 _ _ ⟨_, -1, .inl rfl, rfl, y2⟩)⟩
              refine ⟨_, rfl, _, rfl, b, d, dg, _, (m : Nat), rfl, y2.x.box, by omega, fun rr rr0 rr1 => ?_⟩
              obtain ⟨k, rfl, hk⟩ := idx (m := m) rr0 rr1
              exact mid2 _ _ ⟨_, (k : Nat), .inr ⟨k, rfl, hk⟩, rfl, y2.bs (Bs.refl y2.x.box).draw⟩
            rintro σ' H12 ⟨n3, at_, hat, rfl, y3⟩
            refine ⟨_, rfl, by decide, by decide, fun bq nbq => ?_⟩
            have v3 := Bs.refl y3.x.box
            have nqb := v3.nb nbq
            refine lc_range (lo := 0) (n := 32) (fun j H' => ∃ n' bb, Bs b d dg H12 H' n' ∧ H' bq = some (.lst (iv bb)) ∧ bb.length = j ∧ okB bb = true) ⟨_, [], v3.new nbq, upd_same, rfl, rfl⟩ (fun j H1 hj ⟨n', bb, v4, e, l, o⟩ => ?_) (fun H13 ⟨n4, bb, v4, eb, l32, okb⟩ => ?_)
            · refine ⟨rfl, _, rfl, b, d, dg, _, 255, rfl, v4.box, by decide, fun r r0 r1 => ⟨_, _, rfl, rfl, ?_⟩⟩
              exact ⟨iv bb, by rw [upd_ne nqb]; exact e, by rw [iv_len, l]; exact szlt (by omega), _, bb ++ [1 + r], v4.draw.wr y3.x.box nbq, by rw [upd_same, iv_snoc], by rw [List.length_append, l]; rfl, okB_snoc o (by omega) (by omega)⟩
            have nnb := y3.x.new nbq
            have y4 := y3.bs v4
            refine gn ?_
            refine nxp ?_
            refine seq_mid (A := tAsg _ _) (fun σ' H' => ∃ (Z' : Addr → Prop) (v : V) (ds' : DS), σ' = [some (.ref a), some (.ref b), some (.int (m : Nat)), some (.ref p), some (.ref bl), y5, some (.ref pd), some (.int left), some (.ref tl), some (.int (ds.cuts : Nat)), some (.int (0 + (i : Nat))), some (.int r), y12, some (.int at_), some (.ref bq), some v, y16, y17] ∧
              LY C Z' H' p b d dg n4 bl pd tl tn ds' ds.st ds.wa ∧ Nn Z' b d bq ∧ H' bq = some (.lst (iv bb)) ∧
              ((left = 0 ∧ ds' = cutM ds tn ∧ ∃ q, v = .ref q ∧ H' q = some (.tup [.str "refused", .str "cut"])) ∨
               (left ≠ 0 ∧ v = .non ∧ ∃ s', stepS ds = some s' ∧ ((at_ = -1 ∧ ds' = flM s') ∨ ∃ k : Nat, at_ = k ∧ k < m ∧ ds' = ⟨s'.st, s'.wa ++ [(k, bb)], s'.cuts, s'.sc⟩)))) ?_ (fun mid3 => ?_)
            rotate_left
            · refine ⟨_, rfl, _, rfl, _, rfl, bq, _, rfl, .inl (SqL.of eb), fun hd nhd => ?_⟩
              have s14 : Same H13 (upd H13 hd (.lst (iv bb))) := Same.lst (Same.refl H13) nhd
              have eh14 : upd H13 hd (.lst (iv bb)) hd = some (.lst (iv bb)) := upd_same
              have y5' := y4.sm s14
              generalize upd H13 hd (.lst (iv bb)) = H14 at *
              have eb14 := s14 _ _ eb
              have nZh : ¬ Z hd := fun z => y4.x.da.al _ z nhd
              have cut : ∀ H15, stepS ds = none → Kz Z H14 H15 → DA C (grow Z H14 H15) H15 p (cutM ds (tnS ds)) → ∀ (H' : Hp) (q : Addr), Same H15 H' → H' q = some (.tup [.str "refused", .str "cut"]) → _ := fun H15 es kz d15 H' q s16 e16 => by
                obtain ⟨l0, et⟩ := hsc.cut es
                rw [et] at d15
                exact mid3 [some (.ref a), some (.ref b), some (.int (m : Nat)), some (.ref p), some (.ref bl), y5, some (.ref pd), some (.int left), some (.ref tl), some (.int (ds.cuts : Nat)), some (.int (0 + (i : Nat))), some (.int r), y12, some (.int at_), some (.ref bq), some (.ref q), y16, y17] H'
                  ⟨_, .ref q, _, rfl, (y5'.op kz d15).sm s16, ⟨(k_op kz _ _ nnb.1 eb14).1, nnb.2⟩, s16 _ _ (kz _ _ nnb.1 eb14), .inl ⟨l0, rfl, q, rfl, e16⟩⟩
              have go : ∀ H15 s' ds', stepS ds = some s' → Kz Z H14 H15 → DA C (grow Z H14 H15) H15 p ds' → ((at_ = -1 ∧ ds' = flM s') ∨ ∃ k : Nat, at_ = k ∧ k < m ∧ ds' = ⟨s'.st, s'.wa ++ [(k, bb)], s'.cuts, s'.sc⟩) → _ := fun H15 s' ds' es kz d15 h =>
                mid3 [some (.ref a), some (.ref b), some (.int (m : Nat)), some (.ref p), some (.ref bl), y5, some (.ref pd), some (.int left), some (.ref tl), some (.int (ds.cuts : Nat)), some (.int (0 + (i : Nat))), some (.int r), y12, some (.int at_), some (.ref bq), some .non, y16, y17] H15
                  ⟨_, .non, ds', rfl, y5'.op kz d15, ⟨(k_op kz _ _ nnb.1 eb14).1, nnb.2⟩, kz _ _ nnb.1 eb14, .inr ⟨(hsc.go es).1, rfl, s', es, h⟩⟩
              rcases hat with e | ⟨k, e, hk⟩
              · exact ⟨Z, p, ds, at_, .ref hd, rfl, y5'.x.da, .inl ⟨e, Z, p, ds, rfl, y5'.x.da, by omega, htnS, fun s' es H15 kz d15 => go H15 s' _ es kz d15 (.inl ⟨e, rfl⟩), fun es H15 kz d15 => .inr ⟨rfl, rfl, cut H15 es kz d15⟩⟩⟩
              · refine ⟨Z, p, ds, at_, .ref hd, rfl, y5'.x.da, .inr ⟨by omega, Z, p, ds, at_, hd, bb, rfl, y5'.x.da, eh14, nZh, by omega, by omega, htnS, fun z => by omega, fun n' en lt => ⟨fun z => ?_, fun _ _ => ⟨fun s' es H15 kz d15 => go H15 s' _ es kz d15 (.inr ⟨n', en, by omega, rfl⟩), fun es H15 kz d15 => .inr ⟨rfl, rfl, cut H15 es kz d15⟩⟩⟩⟩⟩
                rcases z with z | z
                · exact absurd l32 z
                · rw [okb] at z; cases z
            · rintro σ' H15 ⟨Z', v, ds', rfl, y5', nbq', ebq, cs⟩
              have ntb := y5'.nbl y2.x.da.lo
              have npb := y5'.x.lb.ne
              obtain ⟨vb, vp, g1, g2, g3, g4⟩ := y5'.x.lb.ex
              have lvp : vp.length = ds.wa.length := pair_len g4
              refine ⟨_, rfl, rfl, _, rfl, ite2 (fun e0 => ?_) (fun e0 => ?_)⟩
              · have e0 : left = 0 := by
                  have e0 := of_decide_eq_true e0
                  injection e0
                rcases cs with ⟨_, rfl, q0, rfl, eq0⟩ | ⟨l0, _⟩
                rotate_left
                · exact absurd e0 l0
                refine ⟨_, rfl, (by show 2 ≤ sizeLine; decide), fun t0 nt0 => ⟨refD "cut", refD "cut", ref_dp ((Same.lst (Same.refl _) nt0) _ _ eq0), ref_dp upd_same, ref_cut, ref_cut, _, rfl, iteE (ref_ne ref_cut) ?_⟩⟩
                have y14 := y5'.sm (Same.lst (Same.refl _) nt0 : Same H15 (upd H15 t0 (.tup [.str "refused", .str "cut"])))
                generalize upd H15 t0 (.tup [.str "refused", .str "cut"]) = H14 at *
                obtain ⟨vb, vp, g1, g2, g3, g4⟩ := y14.x.lb.ex
                have lvp : vp.length = ds.wa.length := pair_len g4
                have e14 := y14.et
                have x14 := y14.x
                have hmin : (if ((vp.length : Nat) : Int) < ((iv tn).length : Nat) then ((vp.length : Nat) : Int) else ((iv tn).length : Nat)) = ((min tn.length ds.wa.length : Nat) : Int) := by
                  rw [iv_len, lvp]
                  split <;> omega
                refine ⟨_, rfl, tl, _, rfl, .inl (SqL.of e14), _, rfl, pd, _, rfl, .inl (SqL.of g3), _, _, rfl, ?_⟩
                rw [hmin]
                refine ⟨_, rfl, by omega, by omega, for_range (lo := 0) (n := min tn.length ds.wa.length) (fun j σ H' => ∃ (y5 y16 : Option V) (vj : List V), σ = [some (.ref a), some (.ref b), some (.int (m : Nat)), some (.ref p), some (.ref bl), y5, some (.ref pd), some (.int left), some (.ref tl), some (.int (ds.cuts : Nat)), some (.int (0 + (i : Nat))), some (.int r), y12, some (.int at_), some (.ref bq), some (.ref q0), y16, y17] ∧
                    KS bl H14 H' ∧ H' bl = some (.lst vj) ∧ Paired (BkR (Nn Z' b d) H') vj (cutL tn (ds.wa.take j) 0 ds.st))
                  ⟨_, _, vb, rfl, fun q o _ e => e, g1, g2⟩ ?_ ?_⟩
                · rintro j σ H2 hj ⟨y5, y16, vj, rfl, ks, gS2, pr⟩
                  obtain ⟨e, he⟩ : ∃ e, ds.wa[j]? = some e := ⟨_, List.getElem?_eq_getElem (by omega)⟩
                  obtain ⟨_, hvj, t, q, rfl, _, gt, zq, gq, lq⟩ := pair_get g4 he
                  have nt' : t ≠ bl := ent_ne gt g1 (bk_refs g2)
                  have nq' : q ≠ bl := blk_ne gq lq g1 (bk_refs g2)
                  have gt2 := ks _ _ nt' gt
                  have gq2 := ks _ _ nq' gq
                  have gp2 := ks _ _ npb g3
                  have gtq2 := ks _ _ ntb e14
                  have lt : e.1 < ds.st.length := y2.x.da.pl e (List.mem_of_getElem? he)
                  obtain ⟨old, hold⟩ : ∃ old, (cutL tn (ds.wa.take j) 0 ds.st)[e.1]? = some old := ⟨_, List.getElem?_eq_getElem (by rw [cutL_len]; exact lt)⟩
                  obtain ⟨v0, hv0, r0, rfl, zr0, gr0, lr0⟩ := pair_get pr hold
                  have lvj : vj.length = ds.st.length := by rw [pair_len pr, cutL_len]
                  obtain ⟨k, hk⟩ : ∃ k : Nat, tn.getD j 0 = k := ⟨(tn.getD j 0).toNat, by have := (okT_get ok j).1; omega⟩
                  have hk32 : k ≤ 32 := by have := (okT_get ok j).2; omega
                  have ek : (tn.getD j 0).toNat = k := by rw [hk]; rfl
                  have htk : (iv tn)[j]? = some (.int (k : Nat)) := by
                    refine iv_get ?_
                    rw [← hk, List.getD_eq_getElem?_getD, List.getElem?_eq_getElem (by omega)]
                    rfl
                  have ec : cutL tn (ds.wa.take (j + 1)) 0 ds.st = (cutL tn (ds.wa.take j) 0 ds.st).set e.1 (e.2.take k ++ old.drop k) := by
                    rw [List.take_add_one, he]
                    show cutL tn (ds.wa.take j ++ [e]) 0 ds.st = _
                    rw [cutL_snoc, List.length_take, Nat.min_eq_left (by omega), Nat.zero_add]
                    unfold cutE
                    rw [ek, List.getD_eq_getElem?_getD (l := cutL tn (ds.wa.take j) 0 ds.st), hold]
                    rfl
                  have zj : (0 : Int) + (j : Int) = (j : Int) := Int.zero_add _
                  refine ⟨_, rfl, _, rfl, pd, vp, 0 + (j : Int), .ref t, rfl, rfl, SqL.of gp2, by rw [zj]; exact atI_nat hvj, t, _, 0, .int (e.1 : Nat), rfl, rfl, SqL.of gt2, atI_nat (j := 0) rfl, ?_⟩
                  refine ⟨_, rfl, _, rfl, pd, vp, 0 + (j : Int), .ref t, rfl, rfl, SqL.of gp2, by rw [zj]; exact atI_nat hvj, t, _, 1, .ref q, rfl, rfl, SqL.of gt2, atI_nat (j := 1) rfl, ?_⟩
                  refine ⟨_, rfl, _, rfl, tl, _, 0 + (j : Int), .int (k : Nat), rfl, rfl, SqL.of gtq2, by rw [zj]; exact atI_nat htk, k, rfl, q, _, rfl, SqL.of gq2, fun a1 na1 => ?_⟩
                  rw [cut_n]
                  have s4 : Same H2 (upd H2 a1 (.lst (iv (e.2.take k)))) := snew (Same.refl _) na1
                  have ga1 : upd H2 a1 (.lst (iv (e.2.take k))) a1 = some (.lst (iv (e.2.take k))) := upd_same
                  generalize upd H2 a1 (.lst (iv (e.2.take k))) = H4 at *
                  refine ⟨_, rfl, _, rfl, bl, vj, e.1, _, rfl, rfl, SqL.of (s4 _ _ gS2), atI_nat hv0, ?_⟩
                  refine ⟨_, rfl, _, rfl, tl, _, 0 + (j : Int), .int (k : Nat), rfl, rfl, SqL.of (s4 _ _ gtq2), by rw [zj]; exact atI_nat htk, k, rfl, r0, _, rfl, SqL.of (s4 _ _ gr0), fun a2 na2 => ?_⟩
                  rw [cut_from (by omega)]
                  have s5 : Same H4 (upd H4 a2 (.lst (iv (old.drop k)))) := snew (Same.refl _) na2
                  have ga2 : upd H4 a2 (.lst (iv (old.drop k))) a2 = some (.lst (iv (old.drop k))) := upd_same
                  generalize upd H4 a2 (.lst (iv (old.drop k))) = H5 at *
                  have ll : (e.2.take k ++ old.drop k).length = 32 := by
                    rw [List.length_append, List.length_take, List.length_drop, lq, lr0]
                    omega
                  refine ⟨a1, a2, _, _, rfl, rfl, s5 _ _ ga1, ga2, (by rw [← List.length_append, iv_app, iv_len, ll]; decide), fun a3 na3 => ?_⟩
                  rw [iv_app]
                  have s6 : Same H5 (upd H5 a3 (.lst (iv (e.2.take k ++ old.drop k)))) := snew (Same.refl _) na3
                  have ga3 : upd H5 a3 (.lst (iv (e.2.take k ++ old.drop k))) a3 = some (.lst (iv (e.2.take k ++ old.drop k))) := upd_same
                  generalize upd H5 a3 (.lst (iv (e.2.take k ++ old.drop k))) = H6 at *
                  have s26 : Same H2 H6 := strans s4 (strans s5 s6)
                  have gS5 := s5 _ _ (s4 _ _ gS2)
                  have gS6 := s6 _ _ gS5
                  refine ⟨_, rfl, _, rfl, bl, vj, e.1, e.1, rfl, rfl, gS6, ixn (by rw [lvj]; exact lt), ?_⟩
                  have n3S : a3 ≠ bl := fun z => by
                    rw [z, gS5] at na3
                    cases na3
                  have f3 : H14 a3 = none := ks.none (by rw [gS2]; intro z; cases z) (sfree (strans s4 s5) na3)
                  refine ⟨_, _, _, rfl, fun q o z e => by rw [upd_ne z]; exact s26 q o (ks q o z e), upd_same, ?_⟩
                  rw [ec]
                  refine pair_set (pair_imp pr fun a b => BkR.up fun q b z lb eb => ⟨z, ?_⟩) e.1 ⟨a3, rfl, x14.new f3, by rw [upd_ne n3S]; exact ga3, ll⟩
                  rw [upd_ne (blk_ne eb lb gS2 (bk_refs pr))]
                  exact s26 _ _ eb
                · rintro σ H2 ⟨y5, y16, vj, rfl, ks, gS, pr⟩
                  rw [cut_take y2.x.da.pl] at pr
                  refine ⟨by decide, fun pd2 np2 => ?_⟩
                  have f2 : H14 pd2 = none := ks.none (by rw [gS]; intro z; cases z) np2
                  have n2b : pd2 ≠ bl := fun y => by rw [y, gS] at np2; cases np2
                  have et2 : upd H2 pd2 (.lst []) tl = some (.lst (iv tn)) := by
                    have := ks _ _ ntb e14
                    rw [upd_ne (ne_of_none this np2)]
                    exact this
                  have y15 := y14.own (H' := upd H2 pd2 (.lst [])) (fun q o nb np e => by
                    have e2 := ks q o nb e
                    rw [upd_ne (ne_of_none e2 np2)]
                    exact e2) et2 (fun z => by rw [← z, e14] at f2; cases f2) (bl' := bl) (pd' := pd2) (cs' := cutL tn ds.wa 0 ds.st) (ps' := []) ⟨⟨vj, [], by rw [upd_ne n2b.symm]; exact gS, pair_imp pr fun a b => BkR.up fun q b z lb e => ⟨z, by rw [upd_ne (ne_of_none e np2)]; exact e⟩, upd_same, .nil⟩, x14.lb.nb, x14.new f2, n2b⟩
                  exact ⟨_, _, rfl, rfl, _, rfl, _, _, rfl, rfl, mid _ _ ⟨Z', n4, pd2, tl, tn, cutM ds tn, -1, y5, _, _, _, _, _, _, _, _, rfl, y15, ok, ltn, .inl ⟨rfl, rfl⟩, by
                    show (cutL tn ds.wa 0 ds.st).length = m
                    rw [cutL_len]
                    exact hm, Nat.zero_le _⟩⟩
              · have e0 : left ≠ 0 := fun z => of_decide_eq_false (Bool.eq_false_iff.mpr e0) (by rw [z])
                rcases cs with ⟨l0, _⟩ | ⟨_, rfl, s', es, cs⟩
                · exact absurd l0 e0
                obtain ⟨es1, es2, es3⟩ := step_st es
                have hgo := (hsc.go es).2
                refine ⟨_, rfl, rfl, _, rfl, iteE non0 ?_⟩
                refine nxp ?_
                obtain ⟨sc', rfl⟩ : ∃ sc', s' = ⟨ds.st, ds.wa, ds.cuts, sc'⟩ := ⟨s'.sc, by
                  obtain ⟨x1, x2, x3, x4⟩ := s'
                  have es1 : x1 = ds.st := es1
                  have es2 : x2 = ds.wa := es2
                  have es3 : x3 = ds.cuts := es3
                  rw [es1, es2, es3]⟩
                have hgo : SchI (if left > 0 then left - 1 else left) tn sc' := hgo
                refine seq_mid (A := tIfS _ _ _) (fun σ' H' => σ' = [some (.ref a), some (.ref b), some (.int (m : Nat)), some (.ref p), some (.ref bl), y5, some (.ref pd), some (.int (if left > 0 then left - 1 else left)), some (.ref tl), some (.int (ds.cuts : Nat)), some (.int (0 + (i : Nat))), some (.int r), y12, some (.int at_), some (.ref bq), some .non, y16, y17] ∧ H' = H15) ?_ (fun mid4 => ?_)
                rotate_left
                · refine ⟨_, rfl, _, _, rfl, rfl, _, rfl, ite2 (fun h => ?_) (fun h => ?_)⟩
                  · have h : 0 < left := of_decide_eq_true h
                    exact ⟨_, rfl, _, _, rfl, rfl, mid4 _ _ ⟨by rw [if_pos h]; rfl, rfl⟩⟩
                  · have h : ¬ 0 < left := of_decide_eq_false (Bool.eq_false_iff.mpr h)
                    exact mid4 _ _ ⟨by rw [if_neg h], rfl⟩
                generalize (if left > 0 then left - 1 else left) = lft at *
                rintro σ' H16 ⟨rfl, e16⟩
                subst e16
                refine ⟨_, rfl, _, _, rfl, rfl, rfl, _, rfl, ite2 (fun h => ?_) (fun h => ?_)⟩
                · have h : at_ = -1 := by
                    have h := of_decide_eq_true h
                    injection h
                  rcases cs with ⟨_, rfl⟩ | ⟨k, ek, _, _⟩
                  rotate_left
                  · exact absurd ek (by omega)
                  refine ⟨_, rfl, pd, rfl, ⟨_, SqL.of g3⟩, for_list (K := K) (a := pd) (xs := vp) (fun j σ H' => ∃ (y17 : Option V) (vj : List V), σ = [some (.ref a), some (.ref b), some (.int (m : Nat)), some (.ref p), some (.ref bl), y5, some (.ref pd), some (.int lft), some (.ref tl), some (.int (ds.cuts : Nat)), some (.int (0 + (i : Nat))), some (.int r), y12, some (.int at_), some (.ref bq), some .non, y16, y17] ∧
                      KS bl H16 H' ∧ H' bl = some (.lst vj) ∧ Paired (BkR (Nn Z' b d) H') vj ((ds.wa.take j).foldl flF ds.st))
                    ⟨_, vb, rfl, fun q o _ e => e, g1, g2⟩ (fun j σ H' _ ⟨_, _, _, ks, _⟩ => SqL.of (ks _ _ npb g3)) ?_ ?_⟩
                  · rintro j y σ H2 hj ⟨y17, vj, rfl, ks, gS, pr⟩
                    obtain ⟨e, he, t, qq, rfl, _, ht, zq, hq, lq⟩ := pair_get1 g4 hj
                    have ntb' : t ≠ bl := ent_ne ht g1 (bk_refs g2)
                    have nqb' : qq ≠ bl := blk_ne hq lq g1 (bk_refs g2)
                    have lt : e.1 < ds.st.length := y2.x.da.pl e (List.mem_of_getElem? he)
                    have lvj : vj.length = ds.st.length := by rw [pair_len pr, fl_len]
                    have ht2 := ks _ _ ntb' ht
                    refine ⟨_, rfl, t, _, 1, .ref qq, rfl, rfl, SqL.of ht2, atI_nat (j := 1) rfl, _, rfl, _, rfl, t, _, 0, .int (e.1 : Nat), rfl, rfl, SqL.of ht2, atI_nat (j := 0) rfl, bl, vj, e.1, e.1, rfl, rfl, gS, ixn (by rw [lvj]; exact lt), ?_⟩
                    refine ⟨_, _, rfl, fun q o z e => by rw [upd_ne z]; exact ks q o z e, upd_same, ?_⟩
                    rw [List.take_add_one, he, List.foldl_append]
                    exact pair_set (pair_imp pr fun a b => BkR.up fun q b z lb e => ⟨z, by rw [upd_ne (blk_ne e lb gS (bk_refs pr))]; exact e⟩) e.1 ⟨qq, rfl, zq, by rw [upd_ne nqb']; exact ks _ _ nqb' hq, lq⟩
                  · rintro σ H2 ⟨y17, vj, rfl, ks, gS, pr⟩
                    rw [pair_len g4, List.take_length] at pr
                    refine ⟨by decide, fun pd2 np2 => ?_⟩
                    have f2 : H16 pd2 = none := ks.none (by rw [gS]; intro z; cases z) np2
                    have n2b : pd2 ≠ bl := fun y => by rw [y, gS] at np2; cases np2
                    have et2 : upd H2 pd2 (.lst []) tl = some (.lst (iv tn)) := by
                      have := ks _ _ ntb y5'.et
                      rw [upd_ne (ne_of_none this np2)]
                      exact this
                    have y15 := y5'.own (H' := upd H2 pd2 (.lst [])) (fun q o nb np e => by
                      have e2 := ks q o nb e
                      rw [upd_ne (ne_of_none e2 np2)]
                      exact e2) et2 (fun z => by rw [← z, y5'.et] at f2; cases f2) (bl' := bl) (pd' := pd2) (cs' := ds.wa.foldl flF ds.st) (ps' := []) ⟨⟨vj, [], by rw [upd_ne n2b.symm]; exact gS, pair_imp pr fun a b => BkR.up fun q b z lb e => ⟨z, by rw [upd_ne (ne_of_none e np2)]; exact e⟩, upd_same, .nil⟩, y5'.x.lb.nb, y5'.x.new f2, n2b⟩
                    exact mid _ _ ⟨Z', n4, pd2, tl, tn, flM ⟨ds.st, ds.wa, ds.cuts, sc'⟩, lft, y5, _, _, _, _, _, _, _, _, rfl, y15, ok, ltn, hgo, by
                      show (ds.wa.foldl flF ds.st).length = m
                      rw [fl_len]
                      exact hm, Nat.zero_le _⟩
                · have h : at_ ≠ -1 := fun z => of_decide_eq_false (Bool.eq_false_iff.mpr h) (by rw [z]; rfl)
                  rcases cs with ⟨ea, _⟩ | ⟨k, rfl, hk, rfl⟩
                  · exact absurd ea h
                  refine ⟨_, rfl, .inl ⟨rfl, _, SqL.of g3⟩, _, rfl, _, rfl, (by show 2 ≤ sizeLine; decide), fun eq neq => ?_⟩
                  have npe : pd ≠ eq := ne_of_none g3 neq
                  have g3' : upd H16 eq (.lst [.int (k : Nat), .ref bq]) pd = some (.lst vp) := by rw [upd_ne npe]; exact g3
                  have up : ∀ q o, q ≠ pd → H16 q = some o → upd (upd H16 eq (.lst [.int (k : Nat), .ref bq])) pd (.lst (vp ++ [.ref eq])) q = some o := fun q o a e => by
                    rw [upd_ne a, upd_ne (ne_of_none e neq)]
                    exact e
                  have y15 := y5'.own (H' := upd (upd H16 eq (.lst [.int (k : Nat), .ref bq])) pd (.lst (vp ++ [.ref eq]))) (fun q o nb np e => up q o np e) (up _ _ y5'.ne y5'.et) y5'.ne (bl' := bl) (pd' := pd) (cs' := ds.st) (ps' := ds.wa ++ [(k, bb)])
                    ⟨⟨vb, vp ++ [.ref eq], up _ _ npb.symm g1, pair_imp g2 fun a b => BkR.up fun q b z lb e => ⟨z, up _ _ (blk_ne e lb g3 (en_refs g4)) e⟩, upd_same,
                    pair_snoc (pair_imp g4 fun a b ⟨t, q, e, z1, h1, z2, h2, l⟩ => ⟨t, q, e, z1, up _ _ (ent_ne h1 g3 (en_refs g4)) h1, z2, up _ _ (blk_ne h2 l g3 (en_refs g4)) h2, l⟩) ⟨eq, bq, rfl, y5'.x.new neq, by rw [upd_ne npe.symm, upd_same], nbq', up _ _ (blk_ne ebq l32 g3 (en_refs g4)) ebq, l32⟩⟩, y5'.x.lb.nb, y5'.x.lb.np, npb⟩
                  refine ⟨pd, vp, _, rfl, rfl, g3', by rw [lvp]; exact szlt (by omega), mid _ _ ⟨Z', n4, pd, tl, tn, ⟨ds.st, ds.wa ++ [(k, bb)], ds.cuts, sc'⟩, lft, y5, _, _, _, _, _, _, _, _, rfl, y15, ok, ltn, hgo, hm, ?_⟩⟩
                  show (ds.wa ++ [(k, bb)]).length ≤ i + 1
                  rw [List.length_append]
                  show ds.wa.length + 1 ≤ i + 1
                  omega
      · rintro σ' H11 ⟨Z, n, pd, tl, tn, ds, left, y5, y10, y11, y12, y13, y14, y15, y16, y17, rfl, y, ok, ltn, hsc, hm, hw⟩
        obtain ⟨dx, S, W, v, vs, us, hp, _⟩ := y.x.da.ex
        obtain ⟨vb, vp, g1, g2, g3, g4⟩ := y.x.lb.ex
        have lvp : vp.length = ds.wa.length := pair_len g4
        have ne0 : ∀ k : Nat, (!decide (V.int (k : Nat) = V.int (k : Nat))) = false := fun k => by rw [decide_eq_true rfl]; rfl
        refine ⟨_, rfl, p, dx, _, rfl, hp, dF_no (by decide +kernel), Z, p, ds, rfl, y.x.da, _, rfl, pd, vp, rfl, .inl (SqL.of g3), rfl, _, rfl, iteE (by rw [lvp]; exact ne0 _) ?_⟩
        refine ⟨_, rfl, p, dx, _, rfl, hp, dF_no (by decide +kernel), Z, p, ds, rfl, y.x.da, _, rfl, rfl, _, rfl, iteE (ne0 _) ?_⟩
        exact ⟨Z, n, pd, tl, tn, ds, left, y5, _, _, _, _, _, _, _, _, rfl, y, ok, ltn, hsc, hm, hw⟩
    · rintro σ H9 ⟨Z, n, pd, tl, tn, ds, left, y5, y10, y11, y12, y13, y14, y15, y16, y17, rfl, y, ok, ltn, hsc, hm, hw⟩
      obtain ⟨dx, S, W, v, vs, us, hp, _⟩ := y.x.da.ex
      refine ⟨_, rfl, p, dx, _, rfl, hp, dF_no (by decide +kernel), by decide, fun t0 nt0 => ?_⟩
      have y3 := y.sm (Same.lst (Same.refl _) nt0 : Same H9 (upd H9 t0 (.lst [])))
      refine ⟨Z, p, ds, t0, [], rfl, y3.x.da, upd_same, by decide, by omega, fun _ H13 kz d13 => ?_, fun z => absurd z (by decide)⟩
      rw [cutM_nil y.x.da.pl] at d13
      have y13 := y3.op kz d13
      obtain ⟨dx, S, W, v, vs, us, hp, _⟩ := y13.x.da.ex
      obtain ⟨vb, vp, g1, g2, g3, g4⟩ := y13.x.lb.ex
      refine ⟨_, rfl, _, rfl, by omega, by omega, fun D9 nD9 => ?_⟩
      refine lc_range (lo := 0) (n := m) (fun j H' => ∃ ws, Same H13 H' ∧ H' D9 = some (.lst ws) ∧ Paired (BkR (fun _ => True) H') ws (ds.st.take j)) ⟨[], Same.lst (Same.refl _) nD9, upd_same, .nil⟩ (fun j H7 hj ⟨ws, s7, eD, pr⟩ => ?_) (fun H7 ⟨ws, s7, eD, pr⟩ => ?_)
      · have lj : j < ds.st.length := by omega
        have lws : ws.length = j := by rw [pair_len pr, List.length_take]; omega
        refine ⟨rfl, _, rfl, p, dx, _, rfl, s7 _ _ hp, dF_no (by decide +kernel), _, rfl, _, p, _, _, rfl, y13.x.da.sm s7, fun n' en lt H8 q8 s8 f8 e8 => ?_, fun bad => ?_⟩
        · obtain rfl : j = n' := by omega
          refine ⟨ws, s8 _ _ eD, by rw [lws]; exact szlt (by omega), ws ++ [.ref q8], fun q o e => ?_, upd_same, ?_⟩
          · rw [upd_ne (fun y => by rw [y, nD9] at e; cases e)]
            exact s8 _ _ (s7 _ _ e)
          · have nq : q8 ≠ D9 := fun y => by rw [y, eD] at f8; cases f8
            obtain ⟨b0, hb0⟩ : ∃ b0, ds.st[j]? = some b0 := ⟨_, List.getElem?_eq_getElem lj⟩
            obtain ⟨_, _, _, _, _, _, l32⟩ := pair_get g2 hb0
            have e8 : H8 q8 = some (.lst (iv b0)) := by
              rw [e8]
              show some (HO.lst (iv (ds.st.getD j []))) = _
              rw [List.getD_eq_getElem?_getD, hb0]
              rfl
            rw [List.take_add_one, hb0]
            exact pair_snoc (pair_imp pr fun a b => BkR.up fun q b z lb e => ⟨trivial, by rw [upd_ne (blk_ne e lb eD (bk_refs pr))]; exact s8 _ _ e⟩) ⟨q8, rfl, trivial, by rw [upd_ne nq]; exact e8, l32⟩
        · have bad : (0 : Int) + (j : Nat) < 0 ∨ ((ds.st.length : Nat) : Int) ≤ 0 + (j : Nat) := bad
          omega
      · rw [← hm, List.take_length] at pr
        refine ⟨_, rfl, blkD ds.st, blkD ds.st, .lst (SqL.of eD) (blk_dp pr), .lst (SqL.of (s7 _ _ g1)) (blk_dp (pair_imp g2 fun a b => BkR.up fun q b z _ e => ⟨z, s7 _ _ e⟩)), blkD_sh _, blkD_sh _, ?_⟩
        rw [blkD_eq]
        exact q _
end
end K5

set_option maxRecDepth 100000
set_option maxHeartbeats 16000000
namespace K5
open PySem hiding Tok code
open PySem.Spec PyProof.Rows GD K1 GS
open L2 hiding rest
abbrev sLaw : Stmt := topS 20
theorem exmSame {K : PySem.W.Frag} {E : Addr} (hb : PySem.W.subIn K (.ref E) (.type "BaseException") = some true) (hi : PySem.W.isClsIn K E = true) (ht : PySem.W.typeIn K (.ref E) = some (.type "type")) (hs : PySem.W.subIn K (.ref E) (.ref E) = some true) : PySem.W.exmOne K (.ref E) (.ref E) = some true := by
  have hi : (PySem.W.clsIn K E).isSome = true := hi
  unfold PySem.W.exmOne PySem.W.kitCls
  simp [hb, hi, ht, hs]
theorem kit_ref {K : PySem.W.Frag} {t C : Addr} {b : Bool} (ne : (Value.ref t == Value.ref C) = false) (hi : PySem.W.isClsIn K C = true) (ht : PySem.W.typeIn K (.ref C) = some (.type "type")) (h4 : PySem.W.subIn K (.ref t) (.ref C) = some b) : PySem.W.kitOne K (.ref t) (.ref C) = some b := by
  have hi : (PySem.W.clsIn K C).isSome = true := hi
  unfold PySem.W.kitOne PySem.W.kitCls
  simp [ne, hi, ht, h4]
theorem exm_no {K : PySem.W.Frag} {E F : Addr} {b : Bool} (hb : PySem.W.subIn K (.ref E) (.type "BaseException") = some true) (hi : PySem.W.isClsIn K E = true) (ht : PySem.W.typeIn K (.ref E) = some (.type "type")) (hs : PySem.W.subIn K (.ref F) (.ref E) = some b) : PySem.W.exmOne K (.ref F) (.ref E) = some b := by
  have hi : (PySem.W.clsIn K E).isSome = true := hi
  unfold PySem.W.exmOne PySem.W.kitCls
  simp [hb, hi, ht, hs]

theorem end_at {l : PySem.W.OpenLaw} {q : Program} {w : World} {K : PySem.W.Frag} {h : Heap} {mg : Str → Option Value} {fa : Addr} (X : K.In h) (G : h.Ns mainGlobals mg) (hfa : mg "law" = some (.ref fa)) (TB : TabsAt q K mg h)
    {f1 f2 f3 f4 f5 f6 f7 f8 f9 f10 f11 f12 f13 f14 f15 f16 f17 f18 f19  CD EP EO EM fI ccI cdaI NO : Addr} {od1 an1 od2 an2 od3 an3 od4 an4 od5 an5 od6 an6 od7 an7 od8 an8 od9 an9 od10 an10 od11 an11 od12 an12 od13 an13 od14 an14 od15 an15 od16 an16 od17 an17 od18 an18 od19 an19  odI anI ddO cddI cldI : Option Addr} {sl1 sl2 sl3 sl4 sl5 sl6 sl7 sl8 sl9 sl10 sl11 sl12 sl13 sl14 sl15 sl16 sl17 sl18 sl19  slI ccsI cslI : Array (Option Value)}
    {oc1 kV1 dc1 pm1 ct1 oc2 kV2 dc2 pm2 ct2 oc3 kV3 dc3 pm3 ct3 oc4 kV4 dc4 pm4 ct4 oc5 kV5 dc5 pm5 ct5 oc6 kV6 dc6 pm6 ct6 oc7 kV7 dc7 pm7 ct7 oc8 kV8 dc8 pm8 ct8 oc9 kV9 dc9 pm9 ct9 oc10 kV10 dc10 pm10 ct10 oc11 kV11 dc11 pm11 ct11 oc12 kV12 dc12 pm12 ct12 oc13 kV13 dc13 pm13 ct13 oc14 kV14 dc14 pm14 ct14 oc15 kV15 dc15 pm15 ct15 oc16 kV16 dc16 pm16 ct16 oc17 kV17 dc17 pm17 ct17 oc18 kV18 dc18 pm18 ct18 oc19 kV19 dc19 pm19 ct19 cd1 cd2 cd3 cd4 cd5 cd6 cd7 cd8 cd9 cd10 cd11 cd12 cd13 cd14 cd15 cd16 cd17 cd18 cd19  : Value} { vsI : Array Value} {t_BLOCK t_BLOCKS_LEAST t_BLOCKS_MOST t_BYTE_MOST t_SCHEDULE_MOST tfI : PySem.Tok} {nmO qO fileI : Str} {bsO bmO subO : List Value} {snO : List Str} {abO : Bool} {colO : Option Bool} {k0O k1O k2O k3O k5O : Option Value} {ocI kVI dcI pmI ctI cclI clI : Value}
    (gD : PySem.W.nsIn K mainGlobals "Disk" = some (some (.ref CD)))
    (xP : PySem.W.nsIn K mainGlobals "PowerCut" = some (some (.ref EP)))
    (a1 : PySem.W.nsIn K mainGlobals "check_torn" = some (some (.ref f1)))
    (l1 : K.lookup f1 = some ⟨oc1, od1, .func (PySem.W.fnOf "check_torn" "check_torn" (defArgs sTornC) (defBody sTornC) (defScope sTornC) .none kV1 dc1 pm1 an1 cd1 ct1), sl1⟩)
    (c1 : PySem.W.codeIn K cd1 "check_torn" = true)
    (k1 : PySem.W.keepIn K (.ref f1) = true)
    (a2 : PySem.W.nsIn K mainGlobals "_law_cell" = some (some (.ref f2)))
    (l2 : K.lookup f2 = some ⟨oc2, od2, .func (PySem.W.fnOf "_law_cell" "_law_cell" (defArgs sCell) (defBody sCell) (defScope sCell) .none kV2 dc2 pm2 an2 cd2 ct2), sl2⟩)
    (c2 : PySem.W.codeIn K cd2 "_law_cell" = true)
    (k2 : PySem.W.keepIn K (.ref f2) = true)
    (a3 : PySem.W.nsIn K mainGlobals "_law_digits" = some (some (.ref f3)))
    (l3 : K.lookup f3 = some ⟨oc3, od3, .func (PySem.W.fnOf "_law_digits" "_law_digits" (defArgs sDigits) (defBody sDigits) (defScope sDigits) .none kV3 dc3 pm3 an3 cd3 ct3), sl3⟩)
    (c3 : PySem.W.codeIn K cd3 "_law_digits" = true)
    (k3 : PySem.W.keepIn K (.ref f3) = true)
    (a4 : PySem.W.nsIn K mainGlobals "_law_draw" = some (some (.ref f4)))
    (l4 : K.lookup f4 = some ⟨oc4, od4, .func (PySem.W.fnOf "_law_draw" "_law_draw" (defArgs sDraw) (defBody sDraw) (defScope sDraw) .none kV4 dc4 pm4 an4 cd4 ct4), sl4⟩)
    (c4 : PySem.W.codeIn K cd4 "_law_draw" = true)
    (k4 : PySem.W.keepIn K (.ref f4) = true)
    (a5 : PySem.W.nsIn K mainGlobals "_law_torn" = some (some (.ref f5)))
    (l5 : K.lookup f5 = some ⟨oc5, od5, .func (PySem.W.fnOf "_law_torn" "_law_torn" (defArgs sLTorn) (defBody sLTorn) (defScope sLTorn) .none kV5 dc5 pm5 an5 cd5 ct5), sl5⟩)
    (c5 : PySem.W.codeIn K cd5 "_law_torn" = true)
    (k5 : PySem.W.keepIn K (.ref f5) = true)
    (a6 : PySem.W.nsIn K mainGlobals "_law_schedule" = some (some (.ref f6)))
    (l6 : K.lookup f6 = some ⟨oc6, od6, .func (PySem.W.fnOf "_law_schedule" "_law_schedule" (defArgs sLSched) (defBody sLSched) (defScope sLSched) .none kV6 dc6 pm6 an6 cd6 ct6), sl6⟩)
    (c6 : PySem.W.codeIn K cd6 "_law_schedule" = true)
    (k6 : PySem.W.keepIn K (.ref f6) = true)
    (a7 : PySem.W.nsIn K mainGlobals "_law_do_raw" = some (some (.ref f7)))
    (l7 : K.lookup f7 = some ⟨oc7, od7, .func (PySem.W.fnOf "_law_do_raw" "_law_do_raw" (defArgs sLDoRaw) (defBody sLDoRaw) (defScope sLDoRaw) .none kV7 dc7 pm7 an7 cd7 ct7), sl7⟩)
    (c7 : PySem.W.codeIn K cd7 "_law_do_raw" = true)
    (k7 : PySem.W.keepIn K (.ref f7) = true)
    (a8 : PySem.W.nsIn K mainGlobals "_law_do" = some (some (.ref f8)))
    (l8 : K.lookup f8 = some ⟨oc8, od8, .func (PySem.W.fnOf "_law_do" "_law_do" (defArgs sLDo) (defBody sLDo) (defScope sLDo) .none kV8 dc8 pm8 an8 cd8 ct8), sl8⟩)
    (c8 : PySem.W.codeIn K cd8 "_law_do" = true)
    (k8 : PySem.W.keepIn K (.ref f8) = true)
    (a9 : PySem.W.nsIn K mainGlobals "law" = some (some (.ref f9)))
    (l9 : K.lookup f9 = some ⟨oc9, od9, .func (PySem.W.fnOf "law" "law" (defArgs sLaw) (defBody sLaw) (defScope sLaw) .none kV9 dc9 pm9 an9 cd9 ct9), sl9⟩)
    (c9 : PySem.W.codeIn K cd9 "law" = true)
    (k9 : PySem.W.keepIn K (.ref f9) = true)
    (a10 : PySem.W.findIn K (.ref CD) "__init__" = some (some (.ref f10)))
    (i10 : PySem.W.isFn K (.ref f10) = true)
    (l10 : K.lookup f10 = some ⟨oc10, od10, .func (PySem.W.fnOf "__init__" "Disk.__init__" (defArgs mDInit) (defBody mDInit) (defScope mDInit) .none kV10 dc10 pm10 an10 cd10 ct10), sl10⟩)
    (c10 : PySem.W.codeIn K cd10 "Disk.__init__" = true)
    (k10 : PySem.W.keepIn K (.ref f10) = true)
    (a11 : PySem.W.findIn K (.ref CD) "read" = some (some (.ref f11)))
    (i11 : PySem.W.isFn K (.ref f11) = true)
    (l11 : K.lookup f11 = some ⟨oc11, od11, .func (PySem.W.fnOf "read" "Disk.read" (defArgs mRead) (defBody mRead) (defScope mRead) .none kV11 dc11 pm11 an11 cd11 ct11), sl11⟩)
    (c11 : PySem.W.codeIn K cd11 "Disk.read" = true)
    (k11 : PySem.W.keepIn K (.ref f11) = true)
    (a12 : PySem.W.findIn K (.ref CD) "write" = some (some (.ref f12)))
    (i12 : PySem.W.isFn K (.ref f12) = true)
    (l12 : K.lookup f12 = some ⟨oc12, od12, .func (PySem.W.fnOf "write" "Disk.write" (defArgs mWrite) (defBody mWrite) (defScope mWrite) .none kV12 dc12 pm12 an12 cd12 ct12), sl12⟩)
    (c12 : PySem.W.codeIn K cd12 "Disk.write" = true)
    (k12 : PySem.W.keepIn K (.ref f12) = true)
    (a13 : PySem.W.findIn K (.ref CD) "flush" = some (some (.ref f13)))
    (i13 : PySem.W.isFn K (.ref f13) = true)
    (l13 : K.lookup f13 = some ⟨oc13, od13, .func (PySem.W.fnOf "flush" "Disk.flush" (defArgs mFlush) (defBody mFlush) (defScope mFlush) .none kV13 dc13 pm13 an13 cd13 ct13), sl13⟩)
    (c13 : PySem.W.codeIn K cd13 "Disk.flush" = true)
    (k13 : PySem.W.keepIn K (.ref f13) = true)
    (a14 : PySem.W.findIn K (.ref CD) "pending_count" = some (some (.ref f14)))
    (i14 : PySem.W.isFn K (.ref f14) = true)
    (l14 : K.lookup f14 = some ⟨oc14, od14, .func (PySem.W.fnOf "pending_count" "Disk.pending_count" (defArgs mPend) (defBody mPend) (defScope mPend) .none kV14 dc14 pm14 an14 cd14 ct14), sl14⟩)
    (c14 : PySem.W.codeIn K cd14 "Disk.pending_count" = true)
    (k14 : PySem.W.keepIn K (.ref f14) = true)
    (a15 : PySem.W.findIn K (.ref CD) "cut_count" = some (some (.ref f15)))
    (i15 : PySem.W.isFn K (.ref f15) = true)
    (l15 : K.lookup f15 = some ⟨oc15, od15, .func (PySem.W.fnOf "cut_count" "Disk.cut_count" (defArgs mCuts) (defBody mCuts) (defScope mCuts) .none kV15 dc15 pm15 an15 cd15 ct15), sl15⟩)
    (c15 : PySem.W.codeIn K cd15 "Disk.cut_count" = true)
    (k15 : PySem.W.keepIn K (.ref f15) = true)
    (a16 : PySem.W.findIn K (.ref CD) "cut_power" = some (some (.ref f16)))
    (i16 : PySem.W.isFn K (.ref f16) = true)
    (l16 : K.lookup f16 = some ⟨oc16, od16, .func (PySem.W.fnOf "cut_power" "Disk.cut_power" (defArgs mCut) (defBody mCut) (defScope mCut) .none kV16 dc16 pm16 an16 cd16 ct16), sl16⟩)
    (c16 : PySem.W.codeIn K cd16 "Disk.cut_power" = true)
    (k16 : PySem.W.keepIn K (.ref f16) = true)
    (a17 : PySem.W.findIn K (.ref CD) "schedule_cut" = some (some (.ref f17)))
    (i17 : PySem.W.isFn K (.ref f17) = true)
    (l17 : K.lookup f17 = some ⟨oc17, od17, .func (PySem.W.fnOf "schedule_cut" "Disk.schedule_cut" (defArgs mSched) (defBody mSched) (defScope mSched) .none kV17 dc17 pm17 an17 cd17 ct17), sl17⟩)
    (c17 : PySem.W.codeIn K cd17 "Disk.schedule_cut" = true)
    (k17 : PySem.W.keepIn K (.ref f17) = true)
    (a18 : PySem.W.findIn K (.ref CD) "check_index" = some (some (.ref f18)))
    (i18 : PySem.W.isFn K (.ref f18) = true)
    (l18 : K.lookup f18 = some ⟨oc18, od18, .func (PySem.W.fnOf "check_index" "Disk.check_index" (defArgs mIndex) (defBody mIndex) (defScope mIndex) .none kV18 dc18 pm18 an18 cd18 ct18), sl18⟩)
    (c18 : PySem.W.codeIn K cd18 "Disk.check_index" = true)
    (k18 : PySem.W.keepIn K (.ref f18) = true)
    (a19 : PySem.W.findIn K (.ref CD) "count_action" = some (some (.ref f19)))
    (i19 : PySem.W.isFn K (.ref f19) = true)
    (l19 : K.lookup f19 = some ⟨oc19, od19, .func (PySem.W.fnOf "count_action" "Disk.count_action" (defArgs mCount) (defBody mCount) (defScope mCount) .none kV19 dc19 pm19 an19 cd19 ct19), sl19⟩)
    (c19 : PySem.W.codeIn K cd19 "Disk.count_action" = true)
    (k19 : PySem.W.keepIn K (.ref f19) = true)
    (pgD : PySem.W.plainGet K CD Str.empty = true)
    (hdD : PySem.W.hasDictIn K CD = true)
    (poD : PySem.W.plainOver K CD = true)
    (saD : PySem.W.findIn K (.ref CD) "__setattr__" = some (some (.builtin "object.__setattr__")))
    (mkD : PySem.W.makesIn K CD = true)
    (kcD : PySem.W.keepIn K (.ref CD) = true)
    (naD0 : PySem.W.findIn K (.ref CD) "stored" = some none)
    (naD1 : PySem.W.findIn K (.ref CD) "waiting" = some none)
    (naD2 : PySem.W.findIn K (.ref CD) "cuts" = some none)
    (naD3 : PySem.W.findIn K (.ref CD) "scheduled" = some none)
    (exP : PySem.W.excIn K EP [.type "ValueError", .type "Exception", .type "BaseException", .type "object"] "ValueError.__new__" = true)
    (ekP : PySem.W.keepIn K (.ref EP) = true)
    (ebP : PySem.W.subIn K (.ref EP) (.type "BaseException") = some true)
    (etP : PySem.W.typeIn K (.ref EP) = some (.type "type"))
    (eiP : PySem.W.isClsIn K EP = true)
    (esP : PySem.W.subIn K (.ref EP) (.ref EP) = some true)
    (z_len : PySem.W.nsIn K mainGlobals "len" = some none)
    (z_range : PySem.W.nsIn K mainGlobals "range" = some none)
    (z_bint : PySem.W.nsIn K mainGlobals "int" = some none)
    (z_blist : PySem.W.nsIn K mainGlobals "list" = some none)
    (z_repr : PySem.W.nsIn K mainGlobals "repr" = some none)
    (z_all : PySem.W.nsIn K mainGlobals "all" = some none)
    (z_enumerate : PySem.W.nsIn K mainGlobals "enumerate" = some none)
    (z_isinstance : PySem.W.nsIn K mainGlobals "isinstance" = some none)
    (z_max : PySem.W.nsIn K mainGlobals "max" = some none)
    (z_min : PySem.W.nsIn K mainGlobals "min" = some none)
    (z_super : PySem.W.nsIn K mainGlobals "super" = some none)
    (y_BLOCK : PySem.W.nsIn K mainGlobals "BLOCK" = some (some (.int 32 t_BLOCK)))
    (y_BLOCKS_LEAST : PySem.W.nsIn K mainGlobals "BLOCKS_LEAST" = some (some (.int 8 t_BLOCKS_LEAST)))
    (y_BLOCKS_MOST : PySem.W.nsIn K mainGlobals "BLOCKS_MOST" = some (some (.int 400 t_BLOCKS_MOST)))
    (y_BYTE_MOST : PySem.W.nsIn K mainGlobals "BYTE_MOST" = some (some (.int 255 t_BYTE_MOST)))
    (y_SCHEDULE_MOST : PySem.W.nsIn K mainGlobals "SCHEDULE_MOST" = some (some (.int 100000 t_SCHEDULE_MOST)))
    (hdP : PySem.W.hasDictIn K EP = true)
    (hgP : PySem.W.findIn K (.ref EP) "__getattribute__" = some (some (.builtin "BaseException.__getattribute__")))
    (hkP : PySem.W.findIn K (.ref EP) "__getattr__" = some none)
    (haP : PySem.W.findIn K (.ref EP) "__class__" = some (some (.builtin "object.__class__")))
    (hnP : PySem.W.specialIn K (.builtin "object.__class__") "__get__" = some (some (.builtin "getset_descriptor.__get__")))
    (htP : PySem.W.takesIn K (.builtin "object.__class__") = some true)
    (hmP : PySem.W.mroIn K EP (.type "object") = some true)
    (gO : PySem.W.nsIn K mainGlobals "OutOfRange" = some (some (.ref EO)))
    (gM : PySem.W.nsIn K mainGlobals "ModuleError" = some (some (.ref EM)))
    (xLO : K.lookup EO = some (excClassObj nmO qO EO NO bsO bmO true snO subO abO colO ddO k0O k1O k2O k3O k5O "ValueError.__new__"))
    (rO : PySem.HandSPX.refsVE bmO = true)
    (saO : PySem.W.findIn K (.ref EO) "__setattr__" = some (some (.builtin "object.__setattr__")))
    (gaO : PySem.W.findIn K (.ref EO) "__getattribute__" = some (some (.builtin "BaseException.__getattribute__")))
    (ggO : PySem.W.findIn K (.ref EO) "__getattr__" = some none)
    (nnO : PySem.W.findIn K (.ref EO) "name" = some none)
    (iO : PySem.W.findIn K (.ref EO) "__init__" = some (some (.ref fI)))
    (tyI : PySem.W.typeIn K (.ref fI) = some (.type "function"))
    (kCO : PySem.W.keepIn K (.ref EO) = true)
    (eCO : PySem.W.subIn K (.ref EO) (.type "BaseException") = some true)
    (tCO : PySem.W.typeIn K (.ref EO) = some (.type "type"))
    (hdO : PySem.W.hasDictIn K EO = true)
    (icO : PySem.W.isClsIn K EO = true)
    (sCO : PySem.W.subIn K (.ref EO) (.ref EO) = some true)
    (lI : K.lookup fI = some ⟨ocI, odI, .func (PySem.W.ksFn "__init__" "OutOfRange.__init__" (defArgs mOInit) (defBody mOInit) (defScope mOInit) .none kVI dcI pmI anI (.ref cdaI) ctI ccI), slI⟩)
    (cI : PySem.W.codeIn K (.ref cdaI) "OutOfRange.__init__" = true)
    (liI : K.lookup cdaI = some ⟨cclI, cddI, .fields vsI, ccsI⟩)
    (fvI : vsI[2]? = some (.str fileI tfI))
    (ffI : ((l.prog.main.file : Str) == fileI) = true)
    (ceI : K.lookup ccI = some ⟨clI, cldI, .cell (some (.ref EO)), cslI⟩)
    (mrO : PySem.W.mroIn K EO (.ref EO) = some true)
    (opq : PySem.W.nsIn K cStatics "thirdparty.any" = some none)
    (inS : PySem.W.ks_superIn K EO EO "__init__" = some (some (.builtin "ValueError.__init__")))
    (sOP : PySem.W.subIn K (.ref EO) (.ref EP) = some false)
    (sPM : PySem.W.subIn K (.ref EP) (.ref EM) = some true)
    (sPO : PySem.W.subIn K (.ref EP) (.ref EO) = some false)
    (tyM : PySem.W.typeIn K (.ref EM) = some (.type "type"))
    (icM : PySem.W.isClsIn K EM = true)
    (nPM : (Value.ref EP == Value.ref EM) = false)
    (nPO : (Value.ref EP == Value.ref EO) = false)
    (isVE : PySem.W.subIn K (.ref EO) (.type "ValueError") = some true)
    (topN : (l.prog.main.scope.names.lookup ("super" : Str)).isSome = false) :
    LawG l w K CX0 9 63 "script" mg fa h := by
  have g : ∀ {x : Str} {v : Value}, PySem.W.nsIn K mainGlobals x = some (some v) → mg x = some v := fun e => PySem.W.mg_of X G e
  have gz : ∀ {x : Str}, PySem.W.nsIn K mainGlobals x = some none → mg x = none := fun e => PySem.W.mg_none_of X G e
  have e := hfa.symm.trans (g a9)
  cases e
  have F1 := fun_mk (st := sTornC) l1 c1 k1
  have b1 := F1.binds (ps := ["torn"]) fun _ _ _ _ _ _ us hl => match us, hl with | [_], _ => rfl
  have F2 := fun_mk (st := sCell) l2 c2 k2
  have b2 := F2.binds (ps := ["script", "k"]) fun _ _ _ _ _ _ us hl => match us, hl with | [_, _], _ => rfl
  have F3 := fun_mk (st := sDigits) l3 c3 k3
  have b3 := F3.binds (ps := ["script", "first", "last"]) fun _ _ _ _ _ _ us hl => match us, hl with | [_, _, _], _ => rfl
  have F4 := fun_mk (st := sDraw) l4 c4 k4
  have b4 := F4.binds (ps := ["box", "many"]) fun _ _ _ _ _ _ us hl => match us, hl with | [_, _], _ => rfl
  have F5 := fun_mk (st := sLTorn) l5 c5 k5
  have b5 := F5.binds (ps := ["box", "many"]) fun _ _ _ _ _ _ us hl => match us, hl with | [_, _], _ => rfl
  have F6 := fun_mk (st := sLSched) l6 c6 k6
  have b6 := F6.binds (ps := ["disk", "count", "torn"]) fun _ _ _ _ _ _ us hl => match us, hl with | [_, _, _], _ => rfl
  have F7 := fun_mk (st := sLDoRaw) l7 c7 k7
  have b7 := F7.binds (ps := ["disk", "at", "block"]) fun _ _ _ _ _ _ us hl => match us, hl with | [_, _, _], _ => rfl
  have F8 := fun_mk (st := sLDo) l8 c8 k8
  have b8 := F8.binds (ps := ["disk", "at", "block"]) fun _ _ _ _ _ _ us hl => match us, hl with | [_, _, _], _ => rfl
  have F9 := fun_mk (st := sLaw) l9 c9 k9
  have F10 := fun_mk (st := mDInit) l10 c10 k10
  have b10 := F10.binds (ps := ["self", "blocks"]) fun _ _ _ _ _ _ us hl => match us, hl with | [_, _], _ => rfl
  have F11 := fun_mk (st := mRead) l11 c11 k11
  have b11 := F11.binds (ps := ["self", "at"]) fun _ _ _ _ _ _ us hl => match us, hl with | [_, _], _ => rfl
  have F12 := fun_mk (st := mWrite) l12 c12 k12
  have b12 := F12.binds (ps := ["self", "at", "block"]) fun _ _ _ _ _ _ us hl => match us, hl with | [_, _, _], _ => rfl
  have F13 := fun_mk (st := mFlush) l13 c13 k13
  have b13 := F13.binds (ps := ["self"]) fun _ _ _ _ _ _ us hl => match us, hl with | [_], _ => rfl
  have F14 := fun_mk (st := mPend) l14 c14 k14
  have b14 := F14.binds (ps := ["self"]) fun _ _ _ _ _ _ us hl => match us, hl with | [_], _ => rfl
  have F15 := fun_mk (st := mCuts) l15 c15 k15
  have b15 := F15.binds (ps := ["self"]) fun _ _ _ _ _ _ us hl => match us, hl with | [_], _ => rfl
  have F16 := fun_mk (st := mCut) l16 c16 k16
  have b16 := F16.binds (ps := ["self", "torn"]) fun _ _ _ _ _ _ us hl => match us, hl with | [_, _], _ => rfl
  have F17 := fun_mk (st := mSched) l17 c17 k17
  have b17 := F17.binds (ps := ["self", "many", "torn"]) fun _ _ _ _ _ _ us hl => match us, hl with | [_, _, _], _ => rfl
  have F18 := fun_mk (st := mIndex) l18 c18 k18
  have b18 := F18.binds (ps := ["self", "at"]) fun _ _ _ _ _ _ us hl => match us, hl with | [_, _], _ => rfl
  have F19 := fun_mk (st := mCount) l19 c19 k19
  have b19 := F19.binds (ps := ["self"]) fun _ _ _ _ _ _ us hl => match us, hl with | [_], _ => rfl
  refine ⟨PySem.W.fnOf "law" "law" (defArgs sLaw) (defBody sLaw) (defScope sLaw) .none kV9 dc9 pm9 an9 cd9 ct9, [], spLaw K, fun p hp => ?_, fun p hp => ?_, fun p hp => ?_, fun s u => .of_eq rfl, fun H a ns hl _ hT hS => ?_, fun base _ _ hTB => ?_⟩
  · cases hp
  · cases hp
  · cases hp
  · refine ⟨a, ns, rfl, hS, fun _ => rfl⟩
  ·
    have T : Txt K mg := ⟨gz z_len, gz z_range, gz z_bint, gz z_blist, gz z_repr⟩
    have T5 : Txt5 mg := ⟨gz z_all, gz z_enumerate, gz z_isinstance, gz z_max, gz z_min⟩
    have T3 : Txt3 mg := ⟨gz z_all, gz z_enumerate⟩
    have TD : TxD K mg CD := ⟨⟨pgD, hdD, poD, saD⟩, naD0, naD1, naD2, naD3, g gD, ⟨_, g y_BLOCK⟩, ⟨_, g y_BLOCKS_LEAST⟩, ⟨_, g y_BLOCKS_MOST⟩, ⟨_, g y_BYTE_MOST⟩⟩
    have oc : OexC K EO := ⟨⟨nmO, qO, NO, bsO, bmO, snO, subO, abO, colO, ddO, k0O, k1O, k2O, k3O, k5O, xLO, rO⟩, saO, eCO, tCO, kCO⟩
    have TO : TxO K mg EO fI := ⟨g gO, oc, iO, tyI, nnO, ⟨gaO, ggO, eCO, hdO⟩, exmSame eCO icO tCO sCO⟩
    have SK : SupK l.prog K mg "__init__" "OutOfRange.__init__" mOInit fI ccI cdaI EO := ⟨⟨_, _, _, _, _, _, _, _, lI⟩, cI, ⟨_, _, _, _, _, _, liI, fvI, ffI⟩, ⟨_, _, _, ceI⟩, mrO, gz z_super, opq, inS, isVE, topN, oc⟩
    obtain ⟨fdI, bI, FI⟩ := ok_oinit (w := w) (base := base) SK nnO
    have TP : TxP K mg "PowerCut" EP := ⟨g xP, exP, ekP, ebP, etP⟩
    have oCell := ok_cell (P := l.prog) (w := w) (base := base) F2 T
    have oDraw := ok_draw (P := l.prog) (w := w) (base := base) F4 T
    have oDig := ok_digits F3 T oCell (g a2) k2 b2
    have oTC := ok_tornC F1 T TD T3 TO bI FI
    have oDI := ok_dinit F10 T TD TO bI FI
    have oIX := ok_index F18 T TD TO bI FI
    have oPe := ok_pend (P := l.prog) (w := w) (base := base) F14 T TD
    have oCu := ok_cuts (P := l.prog) (w := w) (base := base) F15 T TD
    have oRd := ok_read F11 T TD ⟨⟨a18, i18, k18⟩, b18, oIX⟩
    have oCt := ok_cut F16 T T3 TD ⟨g a1, k1, b1, oTC⟩
    have oCo := ok_count F19 T TD TP ⟨⟨a16, i16, k16⟩, b16, oCt⟩
    have oWr := ok_write F12 T T3 TD TO bI FI ⟨⟨a18, i18, k18⟩, b18, oIX⟩ ⟨⟨a19, i19, k19⟩, b19, oCo⟩
    have oFl := ok_flush F13 TD ⟨⟨a19, i19, k19⟩, b19, oCo⟩
    have oLT := ok_ltorn F5 T ⟨g a4, k4, b4, oDraw⟩
    have oSch := ok_sched F17 T TD ⟨_, g y_SCHEDULE_MOST⟩ TO bI FI ⟨g a1, k1, b1, oTC⟩
    have TE : TxE K mg EO EP EM := ⟨g gM, exmSame ebP eiP etP esP, exm_no ebP eiP etP sOP, ⟨hgP, hkP, ebP, hdP, haP, hnP, htP, hmP⟩, kit_ref nPM icM tyM sPM, kit_ref nPO icO tCO sPO⟩
    have oLS := ok_lsched F6 TD TO ⟨⟨a17, i17, k17⟩, b17, oSch⟩
    have oRaw := ok_doraw F7 TD ⟨⟨a12, i12, k12⟩, b12, oWr⟩ ⟨⟨a13, i13, k13⟩, b13, oFl⟩
    have oDo := ok_do F8 TO TP TE (gz z_isinstance) ⟨g a7, k7, b7, oRaw⟩
    exact FnG.of (ok_law42 F9 T T5 T5 TD TO ⟨mkD, a10, i10, kcD⟩ b10 oDI ⟨g a3, k3, b3, oDig⟩ ⟨g a4, k4, b4, oDraw⟩ ⟨g a5, k5, b5, oLT⟩ ⟨g a6, k6, b6, oLS⟩ ⟨g a8, k8, b8, oDo⟩ ⟨⟨a16, i16, k16⟩, b16, oCt⟩ ⟨⟨a11, i11, k11⟩, b11, oRd⟩ ⟨⟨a14, i14, k14⟩, b14, oPe⟩ ⟨⟨a15, i15, k15⟩, b15, oCu⟩)
end K5

open PySem PySem.W PyProof.Rows
set_option maxRecDepth 100000 in
set_option maxHeartbeats 0 in
theorem PySem.Challenge.cw_sameasnew_k42_cut_on_schedule_holds : PySem.Challenge.rw_sameasnew_k42_cut_on_schedule.Holds := by
  w_on; o_law; k_head; (case hw => w_witness2)
  k_fill
  refine GD.walk_ofG (l := PySem.Challenge.rw_sameasnew_k42_cut_on_schedule) (n := 63) (k := 9) (x := "script") (CX := fun _ => L2.CX0) rfl (by decide) rfl ⟨rfl, by decide, by decide⟩ (fun w h Y => PySem.W.kIn_of Y) ?F (fun _ _ _ _ _ h => h)
  case F =>
    intro w mg fa h Y KX G hmg TB
    refine' K5.end_at KX G hmg TB ?gD ?xP ?a1 ?l1 ?c1 ?k1 ?a2 ?l2 ?c2 ?k2 ?a3 ?l3 ?c3 ?k3 ?a4 ?l4 ?c4 ?k4 ?a5 ?l5 ?c5 ?k5 ?a6 ?l6 ?c6 ?k6 ?a7 ?l7 ?c7 ?k7 ?a8 ?l8 ?c8 ?k8 ?a9 ?l9 ?c9 ?k9 ?a10 ?i10 ?l10 ?c10 ?k10 ?a11 ?i11 ?l11 ?c11 ?k11 ?a12 ?i12 ?l12 ?c12 ?k12 ?a13 ?i13 ?l13 ?c13 ?k13 ?a14 ?i14 ?l14 ?c14 ?k14 ?a15 ?i15 ?l15 ?c15 ?k15 ?a16 ?i16 ?l16 ?c16 ?k16 ?a17 ?i17 ?l17 ?c17 ?k17 ?a18 ?i18 ?l18 ?c18 ?k18 ?a19 ?i19 ?l19 ?c19 ?k19 ?pgD ?hdD ?poD ?saD ?mkD ?kcD ?naD0 ?naD1 ?naD2 ?naD3 ?exP ?ekP ?ebP ?etP ?eiP ?esP ?z_len ?z_range ?z_bint ?z_blist ?z_repr ?z_all ?z_enumerate ?z_isinstance ?z_max ?z_min ?z_super ?y_BLOCK ?y_BLOCKS_LEAST ?y_BLOCKS_MOST ?y_BYTE_MOST ?y_SCHEDULE_MOST ?hdP ?hgP ?hkP ?haP ?hnP ?htP ?hmP ?gO ?gM ?xLO ?rO ?saO ?gaO ?ggO ?nnO ?iO ?tyI ?kCO ?eCO ?tCO ?hdO ?icO ?sCO ?lI ?cI ?liI ?fvI ?ffI ?ceI ?mrO ?opq ?inS ?sOP ?sPM ?sPO ?tyM ?icM ?nPM ?nPO ?isVE ?topN
    (case gD => k_is)
    (case xP => k_is)
    (case a1 => k_is)
    (case l1 => k_is)
    (case c1 => k_is)
    (case k1 => k_is)
    (case a2 => k_is)
    (case l2 => k_is)
    (case c2 => k_is)
    (case k2 => k_is)
    (case a3 => k_is)
    (case l3 => k_is)
    (case c3 => k_is)
    (case k3 => k_is)
    (case a4 => k_is)
    (case l4 => k_is)
    (case c4 => k_is)
    (case k4 => k_is)
    (case a5 => k_is)
    (case l5 => k_is)
    (case c5 => k_is)
    (case k5 => k_is)
    (case a6 => k_is)
    (case l6 => k_is)
    (case c6 => k_is)
    (case k6 => k_is)
    (case a7 => k_is)
    (case l7 => k_is)
    (case c7 => k_is)
    (case k7 => k_is)
    (case a8 => k_is)
    (case l8 => k_is)
    (case c8 => k_is)
    (case k8 => k_is)
    (case a9 => k_is)
    (case l9 => k_is)
    (case c9 => k_is)
    (case k9 => k_is)
    (case a10 => k_is)
    (case i10 => k_is)
    (case l10 => k_is)
    (case c10 => k_is)
    (case k10 => k_is)
    (case a11 => k_is)
    (case i11 => k_is)
    (case l11 => k_is)
    (case c11 => k_is)
    (case k11 => k_is)
    (case a12 => k_is)
    (case i12 => k_is)
    (case l12 => k_is)
    (case c12 => k_is)
    (case k12 => k_is)
    (case a13 => k_is)
    (case i13 => k_is)
    (case l13 => k_is)
    (case c13 => k_is)
    (case k13 => k_is)
    (case a14 => k_is)
    (case i14 => k_is)
    (case l14 => k_is)
    (case c14 => k_is)
    (case k14 => k_is)
    (case a15 => k_is)
    (case i15 => k_is)
    (case l15 => k_is)
    (case c15 => k_is)
    (case k15 => k_is)
    (case a16 => k_is)
    (case i16 => k_is)
    (case l16 => k_is)
    (case c16 => k_is)
    (case k16 => k_is)
    (case a17 => k_is)
    (case i17 => k_is)
    (case l17 => k_is)
    (case c17 => k_is)
    (case k17 => k_is)
    (case a18 => k_is)
    (case i18 => k_is)
    (case l18 => k_is)
    (case c18 => k_is)
    (case k18 => k_is)
    (case a19 => k_is)
    (case i19 => k_is)
    (case l19 => k_is)
    (case c19 => k_is)
    (case k19 => k_is)
    (case pgD => k_is)
    (case hdD => k_is)
    (case poD => k_is)
    (case saD => k_is)
    (case mkD => k_is)
    (case kcD => k_is)
    (case naD0 => k_is)
    (case naD1 => k_is)
    (case naD2 => k_is)
    (case naD3 => k_is)
    (case exP => k_exc)
    (case ekP => k_is)
    (case ebP => k_is)
    (case etP => k_is)
    (case eiP => k_is)
    (case esP => first | rfl | k_is)
    (case z_len => k_is)
    (case z_range => k_is)
    (case z_bint => k_is)
    (case z_blist => k_is)
    (case z_repr => k_is)
    (case z_all => k_is)
    (case z_enumerate => k_is)
    (case z_isinstance => k_is)
    (case z_max => k_is)
    (case z_min => k_is)
    (case z_super => k_is)
    (case y_BLOCK => k_is)
    (case y_BLOCKS_LEAST => k_is)
    (case y_BLOCKS_MOST => k_is)
    (case y_BYTE_MOST => k_is)
    (case y_SCHEDULE_MOST => k_is)
    (case hdP => k_is)
    (case hgP => k_is)
    (case hkP => k_is)
    (case haP => k_is)
    (case hnP => k_is)
    (case htP => k_is)
    (case hmP => k_is)
    (case gO => k_is)
    (case gM => k_is)
    (case xLO => k_is)
    (case rO => decide +kernel)
    (case saO => k_is)
    (case gaO => k_is)
    (case ggO => k_is)
    (case nnO => k_is)
    (case iO => k_is)
    (case tyI => k_is)
    (case kCO => k_is)
    (case eCO => k_is)
    (case tCO => k_is)
    (case hdO => k_is)
    (case icO => k_is)
    (case sCO => first | rfl | k_is)
    (case lI => k_is)
    (case cI => k_is)
    (case liI => k_is)
    (case fvI => rfl)
    (case ffI => first | rfl | decide +kernel)
    (case ceI => k_is)
    (case mrO => first | k_is | rfl)
    (case opq => k_is)
    (case inS => first | rfl | kernel_rfl | decide +kernel)
    (case sOP => first | k_is | rfl)
    (case sPM => first | k_is | rfl)
    (case sPO => first | k_is | rfl)
    (case tyM => k_is)
    (case icM => k_is)
    (case nPM => first | rfl | decide)
    (case nPO => first | rfl | decide)
    (case isVE => k_is)
    (case topN => first | rfl | decide +kernel)
