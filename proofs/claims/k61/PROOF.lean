import PyProof.Rows.All
import Wide.All
import OpenK.AllK
import Wide.FinOn
import HandS.ForMost
import HandS.AnyAll
import HandS.EndTab
import PyProof.GenCompD
import KE.KIntText
import HandS.StrMore
import HandS.ExcInit
import HandS.Nested
import KE.KExcSuper
import HandS.TryMany
import HandS.ExcField
import HandS.ExcIs
import HandS.Walk
import HandS.TryOnly
import HandS.DictComp
import HandS.IsInst
import HandS.Codes
import HandS.RaiseMore
import HandS.FStr
import HandS.WordsExc
import HandS.ExcOwn
import HandS.Exc
import HandS.Deep
import PyProof.P3In
import PySem.Challenge.RW_sameasnew_k61_holders
set_option Elab.async false
set_option linter.all false
set_option maxRecDepth 100000
set_option maxHeartbeats 4000000
/-! My own small layer over HandS: promises of defs that hold where no repr is under way (guards = []), the repr of data, the end with tables. -/
namespace GD
open PySem PySem.Spec PyProof.Rows L2

/-- a promise that is kept where nothing is being shown -/
structure FnG (P : Program) (w : World) (K : PySem.W.Frag) (mg : Str → Option Value) (base : Heap)
    (CX : CXT) (k : Nat) (f : Addr) (fd : FuncData) (ps : List Str) (sp : Sp) : Prop where
  size : ∀ vs H Q E, sp vs H Q E → vs.length = ps.length
  go : ∀ (A : Around) (outer : List Env) (s : Shared) (H : Hp) (args : Args) (us : List Value)
    (vs : List V) (Q : VK) (E : XK), A.guards = some [] → Room k A →
    Env0 P w K mg base A outer s H → BindsTo s fd args (ps.zip us) → Vals vs us → sp vs H Q E →
    codeAny (model P w) A (.call (.ref f) args) (CR CX outer P w H s Q E) s

section
variable {P : Program} {w : World} {K : PySem.W.Frag} {mg : Str → Option Value} {base : Heap}
variable {CX : CXT} {k : Nat} {f : Addr} {fd : FuncData} {ps : List Str} {sp : Sp}
theorem FnG.of (F : FnOk P w K mg base CX k f fd ps sp) : FnG P w K mg base CX k f fd ps sp :=
  ⟨F.len, fun A outer s H args us vs Q E _ => F.run A outer s H args us vs Q E⟩

/-- a def of the text by its body, with what is known of the guards -/
theorem fnG_of {name qual : Str} {params : Arguments} {body : List Stmt} {scope : Scope}
    {dV kV doc pm cdv ct oc : Value} {an od : Option Addr} {osl : Array (Option Value)} {N : List Str}
    (lk : K.lookup f = some ⟨oc, od, .func (PySem.W.fnOf name qual params body scope dV kV doc pm an cdv ct), osl⟩)
    (hcd : PySem.W.codeIn K cdv qual = true) (S : FnScope N ps scope)
    (size : ∀ vs H Q E, sp vs H Q E → vs.length = ps.length)
    (hbody : ∀ (A : Around) (outer : List Env) (s : Shared) (H : Hp) (vs : List V) (Q : VK) (E : XK),
      (A.deeper (envOfC qual scope s.heap.objs.size f cdv)).guards = some [] →
      Room k (A.deeper (envOfC qual scope s.heap.objs.size f cdv)) → sp vs H Q E →
      ∃ t, PSs (cxOf CX P w K mg base N qual scope f cdv A outer s H E) body t ∧
        t { nx := fun _ H' => Q .non H', rt := Q } (start N vs) H) :
    FnG P w K mg base CX (k + 1) f (PySem.W.fnOf name qual params body scope dV kV doc pm an cdv ct) ps sp := by
  refine ⟨size, fun A outer s H args us vs Q E hgd hr z0 hb r hs => ?_⟩
  have hl := size _ _ _ _ hs
  have kx : K.In s.heap := z0.mod.kin.keeps fun b o e => (z0.bs b o e).1
  have nl : s.heap.NoLimit := z0.mod.nolimit.keeps fun b o e => (z0.bs b o e).1
  have kind : ∀ y ∈ ps.zip us, scope.names.lookup y.1 = some .local ∨
      (scope.names.lookup y.1 = some .cell ∧
        ((cellsFrom (s.heap.objs.size + 1) scope.names []).lookup y.1).isSome = true) := by
    rintro ⟨n, v⟩ hy
    rcases S.par n (List.of_mem_zip hy).1 with q | q
    · exact .inl q
    · exact .inr ⟨q, PySem.W.cellsFrom_some _ _ _ (.inl q)⟩
  refine codeAny_call_function hr.depth (kx _ _ lk) rfl S.co S.gen rfl (PySem.W.codeRec_of kx hcd) (hb _ _ _ _ ?_)
  refine wpAny_newFunctionEnv_cells S.kind kind fun env he s1 x => ?_
  subst he
  refine ⟨nl.keeps x.toInCall.keep, codeAny_func ?_⟩
  obtain ⟨t, ht, hq⟩ := hbody A outer s H vs Q E hgd (hr.deeper _) hs
  have J := inv_start (CX := CX) (E := E) (qual := qual) (f := f) (cd := cdv) S hr.hd z0 hl r x
  refine wpAny_mono (ht.run [] s1 (start N vs) H _ J hq) (fun fl s' hs' => ?_) fun e s' hs' => hs'
  cases fl with
  | ret u =>
    obtain ⟨v, σ2, H2, I2, rv, q⟩ := hs'
    exact ⟨v, H2, I2.os, I2.bare, I2.base, I2.hok, rv, q⟩
  | next =>
    obtain ⟨σ2, H2, I2, q⟩ := hs'
    exact ⟨V.non, H2, I2.os, I2.bare, I2.base, I2.hok, rfl, q⟩
  | brk =>
    obtain ⟨_, _, _, q⟩ := hs'
    exact q.elim
  | cont =>
    obtain ⟨_, _, _, q⟩ := hs'
    exact q.elim

theorem okG {x qual : Str} {st : Stmt} {N : List Str} (F : Fun K x qual st f fd) (S : FnScope N ps (defScope st))
    (size : ∀ vs H Q E, sp vs H Q E → vs.length = ps.length)
    (hbody : ∀ (cdv : Value) (A : Around) (outer : List Env) (s : Shared) (H : Hp) (vs : List V) (Q : VK) (E : XK),
      (A.deeper (envOfC qual (defScope st) s.heap.objs.size f cdv)).guards = some [] →
      Room k (A.deeper (envOfC qual (defScope st) s.heap.objs.size f cdv)) → sp vs H Q E →
      ∃ t, PSs (cxOf CX0 P w K mg base N qual (defScope st) f cdv A outer s H E).nox (defBody st) t ∧
        t { nx := fun _ H' => Q .non H', rt := Q } (start N vs) H) :
    FnG P w K mg base CX0 (k + 1) f fd ps sp := by
  obtain ⟨oc, od, kV, doc, pm, an, cdv, ct, osl, rfl, lk, hcd⟩ := F.ex
  refine fnG_of lk hcd S size fun A outer s H vs Q E hgd hr hs => ?_
  obtain ⟨t, h, q⟩ := hbody cdv A outer s H vs Q E hgd hr hs
  exact ⟨t, h.nox, q⟩

/-- a def of the text, where its code object is asked for: k is what stands of it in the written part -/
theorem okC {x qual : Str} {st : Stmt} {N : List Str} {oc : Value} {od an : Option Addr} {osl : Array (Option Value)} {kV doc pm cdv ct : Value}
    (lk : K.lookup f = some ⟨oc, od, .func (PySem.W.fnOf x qual (defArgs st) (defBody st) (defScope st) .none kV doc pm an cdv ct), osl⟩)
    (hcd : PySem.W.codeIn K cdv qual = true) (S : FnScope N ps (defScope st))
    (size : ∀ vs H Q E, sp vs H Q E → vs.length = ps.length)
    (hbody : ∀ (A : Around) (outer : List Env) (s : Shared) (H : Hp) (vs : List V) (Q : VK) (E : XK),
      Room k (A.deeper (envOfC qual (defScope st) s.heap.objs.size f cdv)) → sp vs H Q E →
      ∃ t, PSs (cxOf CX0 P w K mg base N qual (defScope st) f cdv A outer s H E).nox (defBody st) t ∧
        t { nx := fun _ H' => Q .non H', rt := Q } (start N vs) H) :
    FnOk P w K mg base CX0 (k + 1) f (PySem.W.fnOf x qual (defArgs st) (defBody st) (defScope st) .none kV doc pm an cdv ct) ps sp := by
  refine fn_of lk hcd S size fun A outer s H vs Q E hr hs => ?_
  obtain ⟨t, h, q⟩ := hbody A outer s H vs Q E hr hs
  exact ⟨t, h.nox, q⟩
end

section
variable {X : Cx} {CX : CXT} {k : Nat} {f : Addr} {fd : FuncData} {ps : List Str} {sp : Sp} {dvs : List V}
variable {ds : List Value} {E : XK} {x : Str} {p pos : Pos} {e : Expr} {es : List Expr} {t : TA}
/-- a call of such a def -/
theorem pe_callG (F : FnG X.prog X.w X.K X.mg X.base CX k f fd ps sp) (hgd : X.A.guards = some []) (hr : Room k X.A) (hg : Gl X x)
    (hm : X.mg x = some (.ref f)) (hk : PySem.W.keepIn X.K (.ref f) = true) (hb : Binds X.K fd ps ds) (hd : Vals dvs ds) (hx : Passes CX X E)
    (ha : PA X (e :: es) t) (hdb : (x == ("__debug__" : Str)) = false := by decide)
    (he : starEach (e :: es) X.env = (false, eval e X.env) :: starEach es X.env := by rfl)
    (hpl : (backTo pos (starEach es X.env)).any (·.1) = false := by rfl) :
    PE X (.Call (.Name x p) (e :: es) [] pos) (tCall sp dvs E t) := by
  refine ⟨fun pins s σ H Q I h => wpAny_Call_Name_kw (ld_glob I hg hm ?_ hdb)⟩
  refine PySem.W.callWith_K (h₀ := X.base) I.ok.mod.kin hk (thn (ha.run pos pins s σ H _ I h) fun us s1 hh => ?_) he hpl
  obtain ⟨vs, H1, I1, r, q⟩ := hh
  refine ⟨I1.kIn, ?_⟩
  have r2 : Vals (vs ++ dvs) (us ++ ds) := r.append hd
  have hl : (us ++ ds).length = ps.length := by
    rw [← r2.length]
    exact F.size _ _ _ _ q
  refine wpAny_call (codeAny_mono (F.go X.A X.stack s1 H1 ⟨us, []⟩ (us ++ ds) (vs ++ dvs) Q E hgd hr I1.env0 (hb s1 us I1.kIn hl) r2 q) fun r s' hq => ?_)
  cases r with
  | error e => exact hx pins σ H1 s1 e s' I1 hq
  | ok fl =>
    cases fl with
    | ret u => exact I1.after hq
    | next => exact hq.elim
    | brk => exact hq.elim
    | cont => exact hq.elim

/-! ### repr of data -/
/-- repr(x) of none-free data: what it shows -/
theorem cr_repr (hgd : X.A.guards = some []) (hu : X.A.units + 64 < cLine) : CallR X (.builtin "repr") (fun xs H Q => ∃ (v : V) (d : PyData), xs = [v] ∧ Dp X.K H v d ∧ d ≠ .none ∧
    d.showable = true ∧ d.hasDict = false ∧ d.depth ≤ 60 ∧ d.shown.length ≤ sizeLine ∧ Q (.str d.shown) H) := by
  intro pins s σ H xs us Q I r h
  obtain ⟨v, d, rfl, hd, hnn, hs, hn, hdp, hz, q⟩ := h
  obtain ⟨u, rfl, ru⟩ := vals1 r
  have fin : ∀ tk, EP X pins σ Q (.str d.shown tk) s := fun tk => ⟨.str _, H, I, ⟨_, rfl⟩, q⟩
  cases hd with
  | non => exact absurd rfl hnn
  | bl b =>
    obtain rfl : u = Value.bool b := ru
    refine PySem.P.repr_of_bool ?_
    have e : (PyData.bool b).shown = (if b then ("True" : Str) else "False") := by
      simp only [PyData.shown]
    rw [e] at q
    cases b
    · exact ⟨.str _, H, I.tok _, ⟨_, rfl⟩, q⟩
    · exact ⟨.str _, H, I.tok _, ⟨_, rfl⟩, q⟩
  | int i =>
    obtain ⟨t, rfl⟩ := ru
    refine PySem.P.repr_of_int ?_ ⟨.str _, H, I.tok _, ⟨_, rfl⟩, ?_⟩
    · simpa only [PyData.showable, decide_eq_true_eq] using hs
    · simpa only [PyData.shown] using q
  | str a =>
    obtain ⟨t, rfl⟩ := ru
    refine PySem.P.repr_of_str ⟨.str _, H, I.tok _, ⟨_, rfl⟩, ?_⟩ ?_
    · simpa only [PyData.shown] using q
    · simpa only [PyData.shown] using hz
  | lst hs' ha' =>
    obtain rfl : u = Value.ref _ := ru
    obtain ⟨as, rr⟩ := Dp.reads I _ _ _ (Dp.lst hs' ha') rfl
    exact repr_of_reads' rr hs (PyData.noDict_hsm hn) hgd (by omega) (fun _ _ e => e)
      (fun h' u tk hk => ⟨.str _, H, I.kept hk, ⟨_, rfl⟩, q⟩) hz
  | tup hs' ha' =>
    obtain rfl : u = Value.ref _ := ru
    obtain ⟨as, rr⟩ := Dp.reads I _ _ _ (Dp.tup hs' ha') rfl
    exact repr_of_reads' rr hs (PyData.noDict_hsm hn) hgd (by omega) (fun _ _ e => e)
      (fun h' u tk hk => ⟨.str _, H, I.kept hk, ⟨_, rfl⟩, q⟩) hz
end
end GD

set_option maxRecDepth 100000
set_option maxHeartbeats 4000000
namespace GD
open PySem PySem.Spec PyProof.Rows L2

/-- an empty table of a code object -/
abbrev tb0 : Obj := { cls := .none, data := .fields #[] }
/-- the script as it is laid -/
abbrev so (vs : List Value) : Obj := { cls := .type "list", data := .seq vs.toArray }
/-- at the entry: the tables at T, and the script unless it belongs to the written part -/
def atEntry (K : PySem.W.Frag) (T : List Addr) (a : Addr) (vs : List Value) (ns : List Int) : Hp := fun b =>
  if b ∈ T then some (.tbl #[]) else if b = a ∧ K.lookup a = none then some (.frz (so vs) (.lst (ns.map V.int))) else none

section
variable {P : Program} {w : World} {K : PySem.W.Frag} {mg mb : Str → Option Value} {CX : CXT} {k : Nat} {fa a : Addr}
variable {cs : List (Addr × Addr)} {fd : FuncData} {x : Str} {sp : Sp} {s₁ : Shared} {vs : List Value} {ns : List Int}
theorem entry_call (kx : K.In s₁.heap) (hns : s₁.heap.Ns mainGlobals mg) (hb : s₁.heap.Ns builtinsNs mb)
    (hbb : ∀ x : Str, x ≠ "__name__" → mb x = bootBuiltins x) (hlim : s₁.heap.NoLimit) (hg : s₁.gens = #[])
    (hT : ∀ p ∈ cs, s₁.heap.get? p.2 = some tb0) (nT : ∀ p ∈ cs, K.lookup p.2 = none) (C : ∀ p ∈ cs, PySem.W.CodeHd s₁.heap p.1 p.2)
    (hbm : ∃ (bm : Addr) (ob : Obj), mg "__builtins__" = some (.ref bm) ∧ bm ≠ builtinsNs ∧ s₁.heap.get? bm = some ob ∧
      ob.cls = .type "module" ∧ ob.dict = some builtinsNs ∧ ob.data = .plain)
    (ha : s₁.heap.get? a = some (so vs)) (hi : IntsAre vs ns) (hl : ns.length ≤ sizeLine) (hr : Room k callerA)
    (F : ∀ base : Heap, K.In base → base.Ns mainGlobals mg → (∀ p ∈ cs, GxR.TabB base mg p.1 p.2) → FnG P w K mg base CX k fa fd [x] sp)
    (hbind : ∀ (s : Shared) (u : Value), BindsTo s fd ⟨[u], []⟩ [(x, u)])
    (hsp : ∀ H : Hp, (∀ p ∈ cs, H p.2 = some (.tbl #[])) → SqL K H a (ns.map V.int) → sp [.ref a] H (fun v _ => v = .bl true) fun _ _ _ => False)
    (hCX : ∀ H e s', CX [] H s₁ (fun _ _ _ => False) e s' → False) :
    codeAny (model P w) callerA (.call (.ref fa) ⟨[.ref a], []⟩)
      (fun r s' => r = .ok (.ret (.bool true)) ∧ OldK s₁.heap s'.heap ∧ s'.os = s₁.os ∧ AllBare s'.gens) s₁ := by
  obtain ⟨T, eT⟩ : ∃ T, T = cs.map (·.2) := ⟨_, rfl⟩
  have inT : ∀ p ∈ cs, p.2 ∈ T := fun p hp => eT ▸ List.mem_map.mpr ⟨p, hp, rfl⟩
  have ofT : ∀ b ∈ T, s₁.heap.get? b = some tb0 ∧ K.lookup b = none := fun b hb => by
    rw [eT] at hb
    obtain ⟨p, hp, rfl⟩ := List.mem_map.mp hb
    exact ⟨hT p hp, nT p hp⟩
  have aT : a ∉ T := fun z => by
    have q := (ofT a z).1
    rw [ha] at q
    cases (congrArg Obj.data (Option.some.inj q) : Data.seq vs.toArray _ = Data.fields #[])
  have rv : Vals (ns.map V.int) vs := vals_ints hi
  obtain ⟨H, eH⟩ : ∃ H, H = atEntry K T a vs ns := ⟨_, rfl⟩
  have hTb : ∀ b ∈ T, H b = some (.tbl #[]) := fun b hb => by rw [eH]; exact if_pos hb
  have hAb : K.lookup a = none → H a = some (.frz (so vs) (.lst (ns.map V.int))) := fun z => by
    rw [eH]
    exact (if_neg aT).trans (if_pos ⟨rfl, z⟩)
  have hOt : ∀ b, b ∉ T → ¬(b = a ∧ K.lookup a = none) → H b = none := fun b h1 h2 => by
    rw [eH]
    exact (if_neg h1).trans (if_neg h2)
  have cases3 : ∀ b, (b ∈ T ∧ H b = some (.tbl #[])) ∨ ((b = a ∧ K.lookup a = none) ∧ H b = some (.frz (so vs) (.lst (ns.map V.int)))) ∨ (b ∉ T ∧ H b = none) := fun b => by
    by_cases h1 : b ∈ T
    · exact .inl ⟨h1, hTb b h1⟩
    · by_cases h2 : b = a ∧ K.lookup a = none
      · exact .inr (.inl ⟨h2, by rw [h2.1]; exact hAb h2.2⟩)
      · exact .inr (.inr ⟨h1, hOt b h1 h2⟩)
  have hok : HOk P w H s₁.heap := fun b u e => by
    rcases cases3 b with ⟨h1, h2⟩ | ⟨⟨rfl, h1⟩, h2⟩ | ⟨_, h2⟩
    · rw [h2] at e
      cases e
      exact (ofT b h1).1
    · rw [h2] at e
      cases e
      exact ⟨ha, by rw [List.length_map]; exact hl, vs, _, rv, ha⟩
    · rw [h2] at e
      cases e
  have hS : SqL K H a (ns.map V.int) := by
    cases hk : K.lookup a with
    | none => exact .inl (.inr ⟨so vs, hAb hk⟩)
    | some o =>
      have e := kx a o hk
      rw [ha] at e
      cases e
      exact .inr ⟨_, vs.toArray, _, hk, rfl, rfl, rfl, by rw [List.size_toArray, hi.length]; exact hl, by simpa using rv⟩
  -- what is neither a sequence nor an empty table is not tracked
  have plain : ∀ {b : Addr} {o : Obj}, s₁.heap.get? b = some o → (∀ us n, o.data ≠ .seq us n) → o.data ≠ .fields #[] → H b = none := fun {b o} e h1 h2 => by
    rcases cases3 b with ⟨q, _⟩ | ⟨⟨rfl, _⟩, _⟩ | ⟨_, q⟩
    · have q := (ofT b q).1
      rw [e] at q
      cases q
      exact (h2 rfl).elim
    · rw [ha] at e
      cases e
      exact (h1 _ _ rfl).elim
    · exact q
  have stay : ∀ {b : Addr} {o : Obj}, s₁.heap.get? b = some o → H b = none → (hidT s₁.heap H).get? b = some o := fun e n => hidT_get e n
  have nsB : ∀ {b : Addr} {m : Str → Option Value}, s₁.heap.Ns b m → (hidT s₁.heap H).Ns b m := fun {b m} ⟨o, es, ep, e, d, r⟩ =>
    ⟨o, es, ep, stay e (plain e (fun us n z => by rw [d] at z; cases z) fun z => by rw [d] at z; cases z), d, r⟩
  have kB : K.In (hidT s₁.heap H) := fun b o e => stay (kx b o e) (by
    rcases cases3 b with ⟨q, _⟩ | ⟨⟨rfl, q⟩, _⟩ | ⟨_, q⟩
    · rw [(ofT b q).2] at e
      cases e
    · rw [q] at e
      cases e
    · exact q)
  have mB : L2.Mod K mg (hidT s₁.heap H) := ⟨kB, nsB hns, ⟨mb, nsB hb, hbb⟩, let ⟨mc, h1, h2⟩ := hlim; ⟨mc, nsB h1, h2⟩⟩
  have notNs : ∀ b o, s₁.heap.get? b = some o → (∃ us, o.data = .fields us) ∨ o.data = .plain → mainGlobals ≠ b := fun b o e h z => by
    obtain ⟨o2, es, ep, e2, d, _⟩ := hns
    rw [z, e] at e2
    cases e2
    rcases h with ⟨us, h⟩ | h
    · rw [h] at d
      cases d
    · rw [h] at d
      cases d
  have tB : ∀ p ∈ cs, GxR.TabB (hidT s₁.heap H) mg p.1 p.2 := fun p hp => by
    have hp0 := hT p hp
    refine ⟨?_, ?_, notNs p.2 _ hp0 (.inl ⟨_, rfl⟩)⟩
    · obtain ⟨o, us, file, tf, flags, tg, inF, text, tt, e1, r1, r2, r3, rest⟩ := C p hp
      refine ⟨o, us, file, tf, flags, tg, inF, text, tt, stay e1 (plain e1 (fun vs n z => ?_) fun z => ?_), r1, r2, r3, rest⟩
      · rw [r2] at z
        cases z
      · rw [r2] at z
        cases z
        simp at r3
    · obtain ⟨bm, ob, b1, b2, b3, b4, b5, b6⟩ := hbm
      refine ⟨bm, ob, b1, b2, (notNs bm ob b3 (.inr b6)).symm, fun z => ?_, stay b3 (plain b3 (fun vs n z => ?_) fun z => ?_), b4, b5, b6⟩
      · rw [z, hp0] at b3
        cases b3
        cases b6
      · rw [b6] at z
        cases z
      · rw [b6] at z
        cases z
  have z0 : Env0 P w K mg (hidT s₁.heap H) callerA [] s₁ H :=
    ⟨rfl, mB, fun b o e => of_hidT e, Nat.le_of_eq (hidT_size _ _), trivial, (fun b hb => by cases hb), hok, .of_eq hg⟩
  refine codeAny_mono ((F _ kB (nsB hns) tB).go callerA [] s₁ H ⟨[.ref a], []⟩ [.ref a] [.ref a] _ _ rfl hr z0 (hbind s₁ (.ref a))
    (.cons rfl .nil) (hsp H (fun p hp => hTb p.2 (inT p hp)) hS)) fun r s' h => ?_
  cases r with
  | error e => exact (hCX H e s' h).elim
  | ok fl =>
    cases fl with
    | next => exact h.elim
    | brk => exact h.elim
    | cont => exact h.elim
    | ret u =>
      obtain ⟨v, H', os, bare, un, hok', r', q⟩ := h
      obtain rfl : v = .bl true := q
      obtain rfl : u = Value.bool true := r'
      have same : ∀ b o, b ∉ T → s₁.heap.get? b = some o → s'.heap.get? b = some o := fun b o nb e => by
        rcases cases3 b with ⟨q, _⟩ | ⟨_, q⟩ | ⟨_, q⟩
        · exact absurd q nb
        · obtain ⟨e1, _⟩ := hok b _ q
          obtain ⟨e2, _⟩ := hok' b _ (un.frzs b _ _ q)
          rw [e] at e1
          cases e1
          exact e2
        · exact un.keep b o e q (fun z => by cases z) (by simp)
      have grown : ∀ p ∈ cs, ∃ more : Array Value, s'.heap.get? p.2 = some { cls := .none, data := .fields more } := fun p hp => by
        obtain ⟨more, z⟩ := un.tbls p.2 #[] (hTb p.2 (inT p hp))
        exact ⟨_, hok' p.2 _ z⟩
      refine ⟨rfl, ⟨fun b o e => ?_, fun b o e => ?_⟩, os, bare⟩
      · by_cases hb : b ∈ T
        · rw [eT] at hb
          obtain ⟨p, hp, rfl⟩ := List.mem_map.mp hb
          obtain ⟨more, hm⟩ := grown p hp
          rw [hT p hp] at e
          cases e
          exact .inr (.inl ⟨((C p hp).tab (hT p hp)).isCodeTable, rfl, #[], more, rfl, by rw [Array.empty_append]; exact hm⟩)
        · exact .inl (same b o hb e)
      · by_cases hb : b ∈ T
        · rw [eT] at hb
          obtain ⟨p, hp, rfl⟩ := List.mem_map.mp hb
          obtain ⟨more, hm⟩ := grown p hp
          exact ⟨_, hm⟩
        · exact ⟨o, same b o hb e⟩
end

/-- the table of the top's def dn: its code object c, the table P -/
def TabsAt (q : Program) (K : PySem.W.Frag) (mg : Str → Option Value) (h : Heap) : Prop :=
  ∀ (dn : Str) (f c P : Addr) (o : Obj) (fd : FuncData) (e : Value) (dd : Option Addr) (us : Array Value) (sl : Array (Option Value)),
    ((recsOf q).any fun r => r.name == dn) = true → mg dn = some (.ref f) → K.lookup f = some o → o.data = .func fd → fd.code = .ref c →
    K.lookup c = some ⟨e, dd, .fields us, sl⟩ → us[11]? = some (.ref P) → h.get? P = some tb0 ∧ PySem.W.CodeHd h c P

/-- what is to be shown of the law's def at the head's heap h -/
def LawG (l : PySem.W.OpenLaw) (w : World) (K : PySem.W.Frag) (CX : CXT) (k n : Nat) (x : Str) (mg : Str → Option Value) (fa : Addr) (h : Heap) : Prop :=
  ∃ (fd : FuncData) (cs : List (Addr × Addr)) (sp : Sp), (∀ p ∈ cs, h.get? p.2 = some tb0) ∧ (∀ p ∈ cs, K.lookup p.2 = none) ∧
    (∀ p ∈ cs, PySem.W.CodeHd h p.1 p.2) ∧ (∀ (s : Shared) (u : Value), BindsTo s fd ⟨[u], []⟩ [(x, u)]) ∧
    (∀ (H : Hp) (a : Addr) (ns : List Int), ns.length ≤ n → (∀ z ∈ ns, Builtin.Int.intBits z ≤ 1048576) → (∀ p ∈ cs, H p.2 = some (.tbl #[])) →
      SqL K H a (ns.map V.int) → sp [.ref a] H (fun v _ => v = .bl true) fun _ _ _ => False) ∧
    ∀ base : Heap, K.In base → base.Ns mainGlobals mg → (∀ p ∈ cs, GxR.TabB base mg p.1 p.2) → FnG l.prog w K mg base CX k fa fd [x] sp

theorem walk_ofG {l : PySem.W.OpenLaw} {n k : Nat} {q : Program} {loose : List Str} {XP : (Str → Option Value) → Heap → Prop}
    {YP : World → Heap → Prop} {d : DefRec} {K : Params → PySem.W.Frag} {CX : World → CXT} {x : Str}
    (hn : l.most = some n) (hn2 : n ≤ sizeLine) (hdf : d.params.defaults = []) (hr : Room k callerA)
    (hY : ∀ (w : World) (h : Heap), YP w h → (K w.params).In h)
    (F : ∀ (w : World) (mg : Str → Option Value) (fa : Addr) (h : Heap), YP w h → (K w.params).In h → h.Ns mainGlobals mg →
      mg d.name = some (.ref fa) → TabsAt q (K w.params) mg h → LawG l w (K w.params) (CX w) k n x mg fa h)
    (hCX : ∀ (w : World) (H : Hp) (s : Shared) (e : Value) (s' : Shared), CX w [] H s (fun _ _ _ => False) e s' → False) :
    PySem.W.WalkO q loose XP YP l.row.toRowW d [] (fun f vs => PySem.call f vs) := by
  refine Att.attach_callB hn hdf fun w s₀ s₁ mg mb fa o pm cd doc a vs ns G Y ho hd hcd hmg hobj hints hlen hbits hg => ?_
  have kx := hY w _ Y
  have tabs : TabsAt q (K w.params) mg s₁.heap := fun dn f c P o fd e dd us sl h1 h2 h3 h4 h5 h6 h7 => by
    obtain ⟨r, hr1, hr2⟩ := List.any_eq_true.mp h1
    obtain rfl : r.name = dn := beq_iff_eq.mp hr2
    obtain ⟨a', o', fd', c', P', g1, g2, g3, g4, g5, g6⟩ := G.T.tab r hr1
    rw [h2] at g1
    cases g1
    have z1 := kx _ _ h3
    rw [z1] at g2
    cases g2
    rw [h4] at g3
    cases g3
    rw [h5] at g4
    cases g4
    have hd := PySem.W.CodeHd.of g5 g6
    obtain ⟨⟨oc, vc, e1, _, e3, e4⟩, hP⟩ := g6
    have z2 := kx _ _ h6
    rw [z2] at e1
    cases e1
    cases e3
    rw [h7] at e4
    cases e4
    exact ⟨hP, hd⟩
  obtain ⟨fd, cs, sp, hT, nT, C, hb, hsp, hF⟩ := F w mg fa _ Y kx G.T.g hmg tabs
  exact entry_call kx G.T.g G.T.b G.T.builtins G.T.nolimit hg hT nT C G.T.bmain hobj hints (Nat.le_trans hlen hn2) hr hF hb
    (fun H hH hS => hsp H a ns hlen hbits hH hS) fun H e s' => hCX w H s₁ e s'
end GD

set_option maxRecDepth 100000
set_option maxHeartbeats 4000000
namespace GD
open PySem PySem.Spec PyProof.Rows L2

/-- the element of a generator over the signs of a text, where it may call a def of the module: a test of the sign c -/
def EltD (X : Cx) (scope : Scope) (x : Str) (elt : Expr) (pb : Nat → Bool) : Prop :=
  ∀ (cenv : Env) (A' : Around) (E' : Value → Shared → Prop) (c : Nat) (t : Tok) (s₂ : Shared) (m₂ : Str → Option Value),
    cenv.scope = scope → cenv.globals = X.env.globals → A'.handled = none → A'.depth ≤ X.A.depth + 1 → A'.units ≤ X.A.units + 8 →
    (∀ b o, X.base.get? b = some o → s₂.heap.get? b = some o) → s₂.heap.Ns cenv.locals m₂ → m₂ x = some (.str ⟨#[c]⟩ t) →
    wpAny (model X.prog X.w) A' (eval elt cenv) (fun y s₃ => y = .bool (pb c) ∧ Keeps s₂ s₃) E' s₂

section
variable {X : Cx} {pins : List (Addr × Obj)} {σ : L2.St} {H : Hp} {s : Shared}
theorem gen_signs {c P : Addr} {elt iter : Expr} {x : Str} {px gpos : Pos} {scope : Scope} {pb : Nat → Bool} {te : TE} {k : Nat}
    {Q' : Value → Shared → Prop} {R : Str → Hp → Prop} (hr : Room k X.A) (TB : GxR.TabB X.base X.mg c P) (hcode : X.env.code = .ref c)
    (S : GxR.GenS X.env scope x) (hi : PE X iter te) (hel : L2.Mod X.K X.mg X.base → EltD X scope x elt pb) (hs : ∀ v, genFold iter X.env v = pure v) (I : Inv X pins σ H s)
    (h : te σ H fun v H1 => ∃ a : Str, v = .str a ∧ GxR.TabG H1 P ∧ R a H1)
    (hQ : ∀ a H1 g s5, R a H1 → GxR.Ready X pins σ H1 P a pb g s5 → Q' (.ref g) s5) :
    wpAny (model X.prog X.w) X.A (eval (.GeneratorExp elt [⟨.Name x px, iter, [], 0⟩] scope gpos) X.env) Q' X.xe s := by
  refine wpAny_GeneratorExp_walksQD hr.hd S.co (closure_ok S.free) S.cell S.dot S.loc S.kind (by have := hr.dp; omega) ?_ hs
  refine thn (hi.run pins s σ H _ I h) fun xv s1 hv => ?_
  obtain ⟨v, H1, I1, r1, a, rfl, ⟨ps, hP, ht⟩, q1⟩ := hv
  obtain ⟨t, rfl⟩ := _root_.id r1
  refine wpAny_pyIter_str fun o St W hst => ?_
  have hP1 : s1.heap.get? P = some { cls := .none, data := .fields ps } := I1.hok P _ hP
  have ltP : P < s1.heap.objs.size := Heap.lt_size hP1
  have up : ∀ b u, s1.heap.get? b = some u → (s1.heap.push o).get? b = some u := fun b u e => Heap.get?_push_of_some _ e
  have cd : PySem.W.CodeHd (s1.heap.push o) c P := TB.code.keeps fun b u e => up b u (I1.bk b u e)
  have nl2 : (s1.heap.push o).NoLimit := I1.nolimit.push o
  have sz2 : (s1.heap.push o).objs.size = s1.heap.objs.size + 1 := Heap.size_push ..
  have rest : ∀ (code : Value) (h3 : Heap) (tk : Nat) (qs : Array Value), Heap.ExtBut P (s1.heap.push o) h3 → (s1.heap.push o).objs.size ≤ h3.objs.size →
      h3.get? P = some { cls := .none, data := .fields qs } → (∃ more, qs = ps ++ more) → TriplesOk qs.toList →
      wpAny (model X.prog X.w) X.A (builtinsFor X.env.globals X.env.builtins) (fun bi s₄ =>
        ∃ Ia fp wr n₀ Pf St₀ pz F, Value.ref s1.heap.objs.size = .ref Ia ∧ (∀ A' : Around, A'.handled = none → Walks X.prog X.w A' Ia fp wr n₀ Pf St₀) ∧
          St₀ 0 s₄.heap ∧ (∀ b ∈ fp, b < s₄.heap.objs.size) ∧ s₄.heap.NoLimit ∧ cStatics ∉ wr ∧
          (∀ href : Heap, (∀ b o, s₄.heap.get? b = some o → href.get? b = some o) →
            QuietGenD X.prog X.w (genEnv scope (cloFrom X.env.cells scope.names []) s₄.heap.objs.size code bi X.env) x [] elt
              (List.range s₄.heap.objs.size) wr Pf pz F href (X.A.depth + 1) (X.A.units + 8)) ∧
          (∀ a h₅ tk gs, gs.bare = true → s₄.heap.objs.size < a → h₅.objs.size = a + 1 → (∀ b o, s₄.heap.get? b = some o → h₅.get? b = some o) →
            WalksS X.prog X.w X.A.in4 a (a :: s₄.heap.objs.size :: List.range s₄.heap.objs.size) (s₄.heap.objs.size :: wr) (GenOnlyQ s₄.gens.size)
              (passing pz n₀ 0).length (fun j y => ∃ i, (passing pz n₀ 0)[j]? = some i ∧ F i y)
              (GenAt X.prog X.w X.A.in4 a s₄.gens.size s₄.heap.objs.size (List.range s₄.heap.objs.size) wr pz n₀ F) →
            GenAt X.prog X.w X.A.in4 a s₄.gens.size s₄.heap.objs.size (List.range s₄.heap.objs.size) wr pz n₀ F 0 { s₄ with gens := s₄.gens.push gs, toks := tk, heap := h₅ } →
            Q' (.ref a) { s₄ with gens := s₄.gens.push gs, toks := tk, heap := h₅ })) X.xe { s1 with heap := h3, toks := tk } := by
    intro code h3 tk qs hx hsz hP3 hmore ht3
    obtain ⟨bm, ob, e1, e2, e3, e4, e5, e6, e7, e8⟩ := TB.bm
    have hcl : cStatics < s1.heap.objs.size := let ⟨_, hns, _⟩ := I1.nolimit; hns.lt
    have hcP : cStatics ≠ P := fun e => by
      obtain ⟨_, ⟨o', es, ep, ho, hd, _⟩, _⟩ := I1.nolimit
      rw [e, hP1] at ho
      cases ho
      cases hd
    have k3 : ∀ b u, b ≠ P → s1.heap.get? b = some u → h3.get? b = some u := fun b u hb e => hx b u hb (up b u e)
    have kbase : ∀ b u, X.base.get? b = some u → h3.get? b = some u := fun b u e => k3 b u (fun z => by
      have q := (I1.bs b u e).2
      rw [z, hP] at q
      cases q) (I1.bk b u e)
    refine wpAny_builtinsFor (m := X.mg) (by rw [I1.ok.glob]; exact ((I1.mod.glob.keeps I1.bk).push o).extBut hx TB.gP) e1 e2 (k3 _ _ e4 (I1.bk _ _ e5)) e6 e7 e8 ?_
    refine ⟨s1.heap.objs.size, [s1.heap.objs.size], [s1.heap.objs.size], a.cps.size, SignAt a, St, (fun _ => true), (fun i y => ∃ cc, a.cps[i]? = some cc ∧ y = .bool (pb cc)), rfl, W, ?_, ?_, nl2.extBut hx hcP, ?_, ?_, ?_⟩
    · refine (W X.A hr.hd).frame _ _ _ hst fun b hb u e => hx b u (fun z => ?_) e
      obtain rfl : b = s1.heap.objs.size := by simpa using hb
      exact Nat.ne_of_lt ltP z.symm
    · intro b hb
      obtain rfl : b = s1.heap.objs.size := by simpa using hb
      show s1.heap.objs.size < h3.objs.size
      omega
    · intro z
      obtain z : cStatics = s1.heap.objs.size := by simpa using z
      exact Nat.ne_of_lt hcl z
    · intro href hhref
      refine ⟨fun A' E' i v s₂ m₂ hA hD hU hPv hn hm hk => ?_, fun A' E' i v s₂ m₂ hA hD hU hPv hp hn hm hk => ?_⟩
      · simp only [List.forIn_nil]
        exact wpAny_pure ⟨rfl, GxR.keeps_refl _⟩
      · obtain ⟨cc, u, hcc, rfl⟩ := hPv
        have kb : ∀ b o, X.base.get? b = some o → s₂.heap.get? b = some o := fun b o e =>
          hk b (List.mem_range.mpr (Heap.lt_size (kbase b o e))) (fun z => by
            obtain z : b = s1.heap.objs.size := by simpa using z
            exact Nat.ne_of_lt (Heap.lt_size (I1.bk b o e)) z) o (hhref b o (kbase b o e))
        exact wpAny_mono (hel I1.ok.mod _ A' E' cc u s₂ m₂ rfl rfl hA hD hU kb hn hm) (fun y s3 r => ⟨⟨cc, hcc, r.1⟩, r.2⟩) fun _ _ e => e
    · intro g h5 tk5 gs hgb hag hsz5 hk5 W5 hat
      simp only [GxR.passing_true, List.length_range] at W5
      refine hQ a H1 g _ q1 ⟨_, _, _, _, _, W5.in4_1, hat, fun j y sj Qj Ej hy hQj => ?_, fun s' hm => ?_⟩
      · obtain ⟨i, hij, cc, hcc, rfl⟩ := hy
        obtain ⟨hj, ej⟩ := List.getElem?_eq_some_iff.mp hij
        rw [List.getElem_range] at ej
        subst ej
        have e9 : a.cps.toList[j]? = some cc := by
          rw [Array.getElem?_toList]
          exact hcc
        have q2 : Qj (GxR.trF pb a.cps.toList j) sj := hQj
        rw [GxR.trF_some e9] at q2
        exact wpAny_truthy_bool q2
      · obtain ⟨more, em⟩ := hmore
        have nwr : ∀ b u, s1.heap.get? b = some u → b ∉ h3.objs.size :: [s1.heap.objs.size] := fun b u e hb => by
          have hl := Heap.lt_size e
          rcases List.mem_cons.mp hb with z | z
          · rw [z] at hl
            have h9 : (h3.objs.size : Nat) < s1.heap.objs.size := hl
            omega
          · obtain z : b = s1.heap.objs.size := by simpa using z
            exact Nat.ne_of_lt hl z
        have J := GxR.inv_tab (more := more) (h' := s'.heap) (g' := s'.gens) (d' := s'.drawn) (t' := s'.toks) I1 hP (fun b u hb e => hm.heap b u (nwr b u e) (hk5 b u (k3 b u hb e)))
          (by rw [← em]; exact hm.heap P _ (nwr P _ hP1) (hk5 P _ hP3)) (AllBare.movedS (I1.bare.push hgb) hm)
        rw [GxR.sh_eta s1 s' hm.os] at J
        exact ⟨upd H1 P (.tbl (ps ++ more)), ⟨⟨ps ++ more, upd_same, by rw [← em]; exact ht3⟩, fun b hb => upd_ne hb⟩, J⟩
  refine ⟨nl2, ?_⟩
  have hP2 := up P _ hP1
  cases hf : codeAmong gpos ps.toList with
  | none =>
    refine wpAny_genexprCodeX hcode (cd.code hP2 ht) (cd.tab hP2) hf fun c' h' tk hx hge hlt hco' _ htab' _ => ?_
    obtain ⟨o1, vs, f1, tf, fl, tg, inF, tx, tt, op, _, _, _, _, _, _, _, _, _, htr, _⟩ := hco'
    exact rest _ h' tk _ hx (Nat.le_trans hge (Nat.le_of_lt hlt)) htab'.2 ⟨_, rfl⟩ htr
  | some cv =>
    refine wpAny_genexprCode_hit hcode (cd.code hP2 ht) hf ?_
    exact rest cv (s1.heap.push o) s1.toks ps (Heap.ExtBut.refl _ _) (Nat.le_refl _) hP2 ⟨#[], by simp⟩ ht

/-- all(test for x in e) -/
theorem pe_allD {c P : Addr} {elt iter : Expr} {x : Str} {px p pos gpos : Pos} {scope : Scope} {pb : Nat → Bool} {te : TE} {k : Nat}
    (hr : Room k X.A) (hg : Gl X "all") (hm : X.mg "all" = none) (TB : GxR.TabB X.base X.mg c P) (hcode : X.env.code = .ref c) (S : GxR.GenS X.env scope x)
    (hi : PE X iter te) (hel : L2.Mod X.K X.mg X.base → EltD X scope x elt pb) (hs : ∀ v, genFold iter X.env v = pure v)
    (he : starEach [.GeneratorExp elt [⟨.Name x px, iter, [], 0⟩] scope gpos] X.env = (false, eval (.GeneratorExp elt [⟨.Name x px, iter, [], 0⟩] scope gpos) X.env) :: starEach [] X.env := by rfl) :
    PE X (.Call (.Name "all" p) [.GeneratorExp elt [⟨.Name x px, iter, [], 0⟩] scope gpos] [] pos) (GxR.tAllS P pb te) := by
  refine ⟨fun pins s σ H Q I h => wpAny_Call_Name_kw (ld_blt I hg hm (by decide +kernel : bootBuiltins "all" = some (.builtin "all")) ?_)⟩
  refine PyProof.Rows.callWith_builtin1 ?_ he (by rfl)
  rw [he]
  show wpAny _ _ (spliced ((false, _) :: backTo pos (starEach [] X.env))) _ _ s
  refine Calls.spliced_cons (gen_signs (R := fun a H1 => ∀ H2, GxR.Tabbed P H1 H2 → Q (.bl (a.cps.toList.all pb)) H2) hr TB hcode S hi hel hs I h fun a H1 g s5 hR hG => ?_)
  obtain ⟨fp, wr, G, F, St, W, hst, htr, hI⟩ := hG
  refine Calls.spliced_nil (call_all_walkS (W.self 0 _ _ _ hst ⟨g, fp, wr, G, _, F, St, _, rfl, W, hst, htr, fun s' hmv => ?_⟩))
  obtain ⟨H2, hT, J⟩ := hI s' hmv
  refine ⟨.bl _, H2, J, rfl, ?_⟩
  rw [GxR.all_signs a pb]
  exact hR H2 hT

/-- an element that calls nothing: x in N, N a text of the module -/
theorem elt_inSigns {scope : Scope} {x n : Str} {z : Str} {tz : Tok} {p1 p2 p3 : Pos} (hgl : X.env.globals = mainGlobals) (hmod : L2.Mod X.K X.mg X.base) (hk : scope.kind = .function)
    (hl : scope.names.lookup x = some .local) (hn : scope.names.lookup n = some .globalImplicit) (hm : X.mg n = some (.str z tz))
    (hd : (x == ("__debug__" : Str)) = false := by decide) (hd2 : (n == ("__debug__" : Str)) = false := by decide) :
    EltD X scope x (.Compare (.Name x p1) [.In] [.Name n p2] p3) (fun c => decide (c ∈ z.cps.toList)) := by
  intro cenv A' E' c t s₂ m₂ hs hg hA hD hU hb hns hx
  refine wpAny_Compare1 ?_
  refine wpAny_Name (wpAny_loadName_local (by rw [hs]; exact hk) (show cenv.scope.names.lookup x = some .local by rw [hs]; exact hl) hns hx ?_) hd
  refine Calls.Name_function_global (by rw [hs]; exact hk) (show cenv.scope.names.lookup n = some .globalImplicit by rw [hs]; exact hn) (Calls.loadGlobal_global (by rw [hg, hgl]; exact hmod.glob.keeps hb) hm ?_) hd2
  refine in_str ⟨?_, GxR.keeps_refl _⟩
  rw [PySem.StrLaws.found_one z c]
end
end GD

set_option maxRecDepth 100000
set_option maxHeartbeats 4000000
/-! the mathematics of law k01: lists of codes, no Python -/
namespace K1
open PySem

def S (l : List Nat) : Str := ⟨l.toArray⟩
theorem S_toList (l : List Nat) : (S l).cps.toList = l := rfl
theorem S_len (l : List Nat) : (S l).length = l.length := by show l.toArray.size = _; simp
theorem S_of (z : Str) : S z.cps.toList = z := by cases z; rfl
theorem S_app (a b : List Nat) : S a ++ S b = S (a ++ b) := by
  show (⟨a.toArray ++ b.toArray⟩ : Str) = ⟨(a ++ b).toArray⟩
  rw [List.append_toArray]
theorem S_inj {a b : List Nat} (h : S a = S b) : a = b := congrArg (fun z : Str => z.cps.toList) h

/-! ### finding a sign -/
section
open Builtin Builtin.Str StrLaws
theorem occ_stop (s sub : Str) (hi : Nat) : ∀ (l : List Nat) (st : Array Nat × Nat), st.fst.size = 1 → (forIn l st (occBody s sub hi 1)).run.fst = st.fst
  | [], st, h => rfl
  | a :: l, st, h => by
    rw [List.forIn_cons]
    unfold occBody
    rw [if_neg (fun z => by have := z.1.1.1; omega)]
    exact occ_stop s sub hi l st h
theorem occ_first (x : Str) (c : Nat) : ∀ (m cur free : Nat), free ≤ cur →
    ((∀ k, cur ≤ k → k < cur + m → x.cps.toList[k]? ≠ some c) ∧ (forIn (List.range' cur m) ((#[] : Array Nat), free) (occBody x ⟨#[c]⟩ x.length 1)).run.fst = #[]) ∨
    ∃ k, cur ≤ k ∧ k < cur + m ∧ x.cps.toList[k]? = some c ∧ (∀ j, cur ≤ j → j < k → x.cps.toList[j]? ≠ some c) ∧ (forIn (List.range' cur m) ((#[] : Array Nat), free) (occBody x ⟨#[c]⟩ x.length 1)).run.fst = #[k]
  | 0, cur, free, h => .inl ⟨fun k h1 h2 => by omega, rfl⟩
  | m + 1, cur, free, h => by
    rw [List.range'_succ, List.forIn_cons]
    unfold occBody
    by_cases hc : x.cps.toList[cur]? = some c
    · have q := (subAt_one x c cur).mpr hc
      rw [if_pos ⟨⟨⟨by simp, h⟩, q.1⟩, q.2⟩]
      refine .inr ⟨cur, Nat.le_refl _, by omega, hc, fun j h1 h2 => by omega, ?_⟩
      exact occ_stop x _ _ _ _ rfl
    · rw [if_neg (fun z => hc ((subAt_one x c cur).mp ⟨z.1.2, z.2⟩))]
      rcases occ_first x c m (cur + 1) free (by omega) with ⟨h1, h2⟩ | ⟨k, h1, h2, h3, h4, h5⟩
      · refine .inl ⟨fun k k1 k2 => ?_, h2⟩
        by_cases e : k = cur
        · rw [e]; exact hc
        · exact h1 k (by omega) (by omega)
      · refine .inr ⟨k, by omega, by omega, h3, fun j j1 j2 => ?_, h5⟩
        by_cases e : j = cur
        · rw [e]; exact hc
        · exact h4 j (by omega) j2
/-- s.find(c, i): the first place from i on -/
theorem find_one (x : Str) (c i : Nat) (hi : i ≤ x.length) :
    (Txt.find3 x ⟨#[c]⟩ (i : Nat) = -1 ∧ c ∉ x.cps.toList.drop i) ∨
    ∃ k : Nat, Txt.find3 x ⟨#[c]⟩ (i : Nat) = ((i + k : Nat) : Int) ∧ (x.cps.toList.drop i)[k]? = some c ∧ c ∉ (x.cps.toList.drop i).take k := by
  have e : fromIndex x.length (i : Nat) = i := by
    show (max (0 : Int) (if ((i : Nat) : Int) < 0 then _ else ((i : Nat) : Int))).toNat = i
    rw [if_neg (by omega)]
    omega
  unfold Txt.find3
  rw [e, occ_eq]
  have xl : x.length = x.cps.toList.length := by show x.cps.size = _; simp
  rcases occ_first x c (x.length + 1 - i) i i (Nat.le_refl _) with ⟨h1, h2⟩ | ⟨k, h1, h2, h3, h4, h5⟩
  · left
    rw [h2]
    refine ⟨rfl, fun hm => ?_⟩
    obtain ⟨j, hj⟩ := List.getElem?_of_mem hm
    rw [List.getElem?_drop] at hj
    have := (List.getElem?_eq_some_iff.mp hj).1
    exact h1 (i + j) (by omega) (by omega) hj
  · right
    rw [h5]
    refine ⟨k - i, ?_, ?_, fun hm => ?_⟩
    · show ((k : Nat) : Int) = _
      omega
    · rw [List.getElem?_drop, show i + (k - i) = k by omega]
      exact h3
    · obtain ⟨j, hj⟩ := List.getElem?_of_mem hm
      have hlt : j < k - i := by
        have := (List.getElem?_eq_some_iff.mp hj).1
        rw [List.length_take] at this
        omega
      rw [List.getElem?_take_of_lt hlt, List.getElem?_drop] at hj
      exact h4 (i + j) (by omega) (by omega) hj
end

/-! ### tokens -/
def LET : List Nat := ("abcdefghijklmnopqrstuvwxyz" : Str).cps.toList
def DIG : List Nat := ("0123456789" : Str).cps.toList
def SGN : List Nat := ("(),;+-*<=" : Str).cps.toList
def mayB (c : Nat) : Bool := decide (32 ≤ c ∧ c ≤ 126 ∧ c ≠ 37 ∧ c ≠ 34 ∧ c ≠ 124)
/-- how many of cs stand at the beginning -/
def run (cs l : List Nat) : Nat := (l.takeWhile fun c => decide (c ∈ cs)).length
def val (ds : List Nat) : Nat := ds.foldl (fun acc c => acc * 10 + (c - 48)) 0
inductive Tok where
  | word (l : List Nat) | num (n : Nat) | str (l : List Nat) | sign (c : Nat)
/-- the text of a number -/
def numT (n : Nat) : List Nat := (Str.ofString (toString (n : Int))).cps.toList
/-- how far the next quote is -/
def toQ (r : List Nat) : Nat := (r.takeWhile fun d => d != 34).length
/-- the token at the beginning, and how many signs it has -/
def lexC (c : Nat) (r : List Nat) : Option (Tok × Nat) :=
    if c ∈ LET then (if run LET (c :: r) ≤ 6 then some (.word ((c :: r).take (run LET (c :: r))), run LET (c :: r)) else none)
    else if c ∈ DIG then
      (if run DIG (c :: r) ≤ 5 ∧ (c :: r).take (run DIG (c :: r)) = numT (val ((c :: r).take (run DIG (c :: r)))) then
        some (.num (val ((c :: r).take (run DIG (c :: r)))), run DIG (c :: r)) else none)
    else if c = 34 then
      (if toQ r < r.length ∧ toQ r ≤ 20 ∧ (r.take (toQ r)).all mayB = true then some (.str (r.take (toQ r)), toQ r + 2) else none)
    else if c ∈ SGN then some (.sign c, 1) else none
/-- how a line is split -/
inductive Lex : List Nat → Option (List Tok) → Prop
  | nil : Lex [] (some [])
  | sp {r o} : Lex r o → Lex (32 :: r) o
  | bad {c r} : c ≠ 32 → lexC c r = none → Lex (c :: r) none
  | tok {c r t k o} : c ≠ 32 → lexC c r = some (t, k) → Lex ((c :: r).drop k) o → Lex (c :: r) (o.map (t :: ·))

theorem run_le (cs l : List Nat) : run cs l ≤ l.length := (List.takeWhile_sublist _).length_le
theorem run_pos {cs : List Nat} {c : Nat} {r : List Nat} (h : c ∈ cs) : 1 ≤ run cs (c :: r) := by
  unfold run
  rw [List.takeWhile_cons, if_pos (decide_eq_true h)]
  simp
theorem lexC_pos {c : Nat} {r : List Nat} {t : Tok} {k : Nat} (h : lexC c r = some (t, k)) : 1 ≤ k := by
  unfold lexC at h
  by_cases h1 : c ∈ LET
  · rw [if_pos h1] at h
    split at h
    · cases h
      exact run_pos h1
    · cases h
  rw [if_neg h1] at h
  by_cases h2 : c ∈ DIG
  · rw [if_pos h2] at h
    split at h
    · cases h
      exact run_pos h2
    · cases h
  rw [if_neg h2] at h
  by_cases h3 : c = 34
  · rw [if_pos h3] at h
    split at h
    · cases h
      omega
    · cases h
  rw [if_neg h3] at h
  split at h
  · cases h
    exact Nat.le_refl _
  · cases h
/-- every line is split in some way -/
theorem lex_all : ∀ (n : Nat) (l : List Nat), l.length ≤ n → ∃ o, Lex l o
  | _, [], _ => ⟨_, .nil⟩
  | 0, _ :: _, h => by simp at h
  | n + 1, c :: r, h => by
    have hr : r.length ≤ n := by simpa using h
    by_cases hc : c = 32
    · obtain ⟨o, ho⟩ := lex_all n r hr
      subst hc
      exact ⟨o, .sp ho⟩
    · cases e : lexC c r with
      | none => exact ⟨none, .bad hc e⟩
      | some tk =>
        obtain ⟨t, k⟩ := tk
        have hk := lexC_pos e
        obtain ⟨o, ho⟩ := lex_all n ((c :: r).drop k) (by rw [List.length_drop, List.length_cons]; omega)
        exact ⟨_, .tok hc e ho⟩
/-! ### quotes come in twos -/
def q34 (l : List Nat) : Nat := l.count 34
theorem q34_none {l : List Nat} (h : 34 ∉ l) : q34 l = 0 := List.count_eq_zero.mpr h
theorem q34_app (a b : List Nat) : q34 (a ++ b) = q34 a + q34 b := List.count_append
theorem run_take (cs l : List Nat) : l.take (run cs l) = l.takeWhile fun c => decide (c ∈ cs) := by
  unfold run
  exact (List.prefix_iff_eq_take.mp (List.takeWhile_prefix _)).symm
theorem mem_tw {p : Nat → Bool} {x : Nat} : ∀ {l : List Nat}, x ∈ l.takeWhile p → p x = true
  | [], h => by cases h
  | a :: l, h => by
    rw [List.takeWhile_cons] at h
    split at h
    · rename_i ha
      rcases List.mem_cons.mp h with rfl | h
      · exact ha
      · exact mem_tw h
    · cases h
theorem mem_run {cs l : List Nat} {c : Nat} (h : c ∈ l.take (run cs l)) : c ∈ cs := by
  rw [run_take] at h
  exact of_decide_eq_true (mem_tw h)
theorem at_tw {p : Nat → Bool} : ∀ {l : List Nat}, (l.takeWhile p).length < l.length → ∃ x, l[(l.takeWhile p).length]? = some x ∧ p x = false
  | [], h => by cases h
  | a :: l, h => by
    rw [List.takeWhile_cons] at h ⊢
    cases ha : p a with
    | true =>
      rw [ha] at h
      simp only [if_true, List.length_cons] at h ⊢
      obtain ⟨x, h1, h2⟩ := at_tw (p := p) (l := l) (by omega)
      exact ⟨x, by simpa using h1, h2⟩
    | false => exact ⟨a, by simp, ha⟩
theorem take_tw {p : Nat → Bool} (l : List Nat) : l.take (l.takeWhile p).length = l.takeWhile p := (List.prefix_iff_eq_take.mp (List.takeWhile_prefix _)).symm
theorem lexC_even {c : Nat} {r : List Nat} {t : Tok} {k : Nat} (h : lexC c r = some (t, k)) : q34 ((c :: r).take k) % 2 = 0 := by
  unfold lexC at h
  by_cases h1 : c ∈ LET
  · rw [if_pos h1] at h
    split at h
    · cases h
      rw [q34_none (fun z => absurd (mem_run z) (by decide))]
    · cases h
  rw [if_neg h1] at h
  by_cases h2 : c ∈ DIG
  · rw [if_pos h2] at h
    split at h
    · cases h
      rw [q34_none (fun z => absurd (mem_run z) (by decide))]
    · cases h
  rw [if_neg h2] at h
  by_cases h3 : c = 34
  · rw [if_pos h3] at h
    split at h
    · rename_i hk
      cases h
      subst h3
      have n1 : 34 ∉ r.take (toQ r) := fun z => by
        unfold toQ at z
        rw [take_tw] at z
        have := mem_tw z
        simp at this
      obtain ⟨x, hx, hp⟩ := at_tw (p := fun d => d != 34) (l := r) hk.1
      have hx' : x = 34 := by simpa using hp
      subst hx'
      have hx : r[toQ r]? = some 34 := hx
      rw [List.take_succ_cons, List.take_add_one, hx]
      show q34 ([34] ++ (r.take _ ++ [34])) % 2 = 0
      rw [q34_app, q34_app, q34_none n1]
      rfl
    · cases h
  rw [if_neg h3] at h
  split at h
  · cases h
    show q34 [c] % 2 = 0
    rw [q34_none (fun z => h3 (List.mem_singleton.mp z).symm)]
  · cases h
theorem lex_even {l : List Nat} {o : Option (List Tok)} (h : Lex l o) : o ≠ none → q34 l % 2 = 0 := by
  induction h with
  | nil => exact fun _ => rfl
  | sp _ ih =>
    intro h
    show q34 ([32] ++ _) % 2 = 0
    rw [q34_app]
    have := ih h
    have e : q34 [32] = 0 := rfl
    omega
  | bad _ _ => exact fun h => absurd rfl h
  | @tok c r t k o _ e _ ih =>
    intro h
    have h1 := lexC_even e
    have h2 := ih (fun z => h (by rw [z]; rfl))
    have e := q34_app ((c :: r).take k) ((c :: r).drop k)
    rw [List.take_append_drop] at e
    omega

/-! ### texts that are joined -/
/-- a token of the law's menu, spelled -/
def spell : Tok → List Nat
  | .word l => l
  | .num n => numT n
  | .str l => [34] ++ l ++ [34]
  | .sign c => [c]
/-- a token that is well made -/
def good : Tok → Prop
  | .word l => l ≠ [] ∧ l.length ≤ 6 ∧ ∀ c ∈ l, c ∈ LET
  | .num n => n ≤ 99999
  | .str l => l.length ≤ 20 ∧ ∀ c ∈ l, mayB c = true
  | .sign c => c ∈ SGN
/-- what may follow a token -/
def apart : Tok → List Nat → Prop
  | .word _, l => ∀ c r, l = c :: r → c ∉ LET
  | .num _, l => ∀ c r, l = c :: r → c ∉ DIG
  | _, _ => True
theorem run_all {cs a b : List Nat} (ha : ∀ c ∈ a, c ∈ cs) (hb : ∀ c r, b = c :: r → c ∉ cs) : run cs (a ++ b) = a.length := by
  unfold run
  rw [List.takeWhile_append_of_pos (fun c hc => decide_eq_true (ha c hc)), List.length_append]
  cases b with
  | nil => simp
  | cons c r => rw [List.takeWhile_cons, if_neg (by simpa using hb c r rfl)]; simp
theorem digits_len : ∀ (k m : Nat), m < 10 ^ (k + 1) → (Nat.toDigits 10 m).length ≤ k + 1
  | k, m, h => by
    by_cases hm : m < 10
    · rw [Nat.toDigits_of_lt_base hm]
      exact Nat.le_add_left _ _
    · cases k with
      | zero => exact absurd h hm
      | succ k =>
        have lt : m % 10 < 10 := Nat.mod_lt m (by decide)
        have t : Nat.toDigits 10 (m / 10) ++ Nat.toDigits 10 (m % 10) = Nat.toDigits 10 (10 * (m / 10) + m % 10) := Nat.toDigits_append_toDigits (by decide) (by omega) lt
        rw [Nat.div_add_mod] at t
        rw [← t, List.length_append, Nat.toDigits_of_lt_base lt]
        have := digits_len k (m / 10) (by rw [Nat.pow_succ] at h; omega)
        show (Nat.toDigits 10 (m / 10)).length + 1 ≤ k + 1 + 1
        omega
theorem numT_eq (n : Nat) : numT n = (Nat.toDigits 10 n).map Char.toNat := PySem.W.KIN.signs_num n
theorem numT_dig {n : Nat} (h : n ≤ 99999) : numT n ≠ [] ∧ (numT n).length ≤ 5 ∧ (∀ c ∈ numT n, c ∈ DIG) ∧ val (numT n) = n := by
  rw [numT_eq]
  refine ⟨fun e => ?_, ?_, fun c hc => ?_, PySem.W.KIN.val_back n⟩
  · have := PySem.W.KIN.val_back n
    have q := List.map_eq_nil_iff.mp e
    have l := toDigits_len_ge 10 n
    rw [q] at l
    exact absurd l (by decide)
  · rw [List.length_map]
    exact digits_len 4 n (by omega)
  · obtain ⟨ch, hch, e⟩ := List.mem_map.mp hc
    have r := PyProof.Rows.digit_range (Nat.isDigit_of_mem_toDigits (by decide) (by decide) hch)
    have hD : ∀ d, 48 ≤ d → d ≤ 57 → d ∈ DIG := by
      intro d h1 h2
      have : ∀ k, k < 10 → 48 + k ∈ DIG := by decide
      have q := this (d - 48) (by omega)
      rw [show 48 + (d - 48) = d by omega] at q
      exact q
    rw [← e]
    exact hD _ r.1 r.2
theorem let_dig {c : Nat} (h : c ∈ DIG) : c ∉ LET := fun z => by
  have : ∀ c ∈ DIG, c ∉ LET := by decide
  exact this c h z
theorem take_all {a b : List Nat} : (a ++ b).take a.length = a := List.take_left' rfl
theorem lex_spell {t : Tok} {b : List Nat} (g : good t) (ap : apart t b) : ∃ c r, spell t ++ b = c :: r ∧ c ≠ 32 ∧ lexC c r = some (t, (spell t).length) := by
  cases t with
  | word l =>
    obtain ⟨h1, h2, h3⟩ := g
    cases l with
    | nil => exact absurd rfl h1
    | cons c r =>
      have hc : c ∈ LET := h3 c List.mem_cons_self
      refine ⟨c, r ++ b, rfl, fun z => absurd hc (by rw [z]; decide), ?_⟩
      unfold lexC
      have e : run LET (c :: (r ++ b)) = (c :: r).length := run_all (a := c :: r) h3 ap
      rw [if_pos hc, e, if_pos h2]
      show some (Tok.word (((c :: r) ++ b).take (c :: r).length), _) = _
      rw [take_all]
      rfl
  | num n =>
    obtain ⟨h1, h2, h3, h4⟩ := numT_dig (show n ≤ 99999 from g)
    show ∃ c r, numT n ++ b = c :: r ∧ c ≠ 32 ∧ lexC c r = some (Tok.num n, (numT n).length)
    obtain ⟨l, hl⟩ : ∃ l, l = numT n := ⟨_, rfl⟩
    rw [← hl] at h1 h2 h3 h4 ⊢
    cases l with
    | nil => exact absurd rfl h1
    | cons c r =>
      have hc : c ∈ DIG := h3 c List.mem_cons_self
      refine ⟨c, r ++ b, rfl, fun z => absurd hc (by rw [z]; decide), ?_⟩
      unfold lexC
      have e : run DIG (c :: (r ++ b)) = (c :: r).length := run_all (a := c :: r) h3 ap
      have e2 : (c :: (r ++ b)).take (c :: r).length = c :: r := take_all (a := c :: r) (b := b)
      rw [if_neg (let_dig hc), if_pos hc, e, e2, h4, if_pos ⟨h2, hl⟩]
  | str l =>
    obtain ⟨h1, h2⟩ := g
    refine ⟨34, l ++ [34] ++ b, rfl, by decide, ?_⟩
    unfold lexC
    have n34 : ∀ c ∈ l, (c != 34) = true := fun c hc => by
      have := h2 c hc
      unfold mayB at this
      have := of_decide_eq_true this
      simp [this.2.2.2.1]
    have e : toQ (l ++ [34] ++ b) = l.length := by
      unfold toQ
      rw [List.append_assoc, List.takeWhile_append_of_pos n34, List.length_append]
      show l.length + (List.takeWhile _ (34 :: b)).length = _
      rw [List.takeWhile_cons, if_neg (by decide)]
      rfl
    have e2 : (l ++ [34] ++ b).take l.length = l := by rw [List.append_assoc]; exact take_all
    rw [if_neg (by decide), if_neg (by decide), if_pos rfl, e, e2, if_pos ⟨by simp, h1, List.all_eq_true.mpr h2⟩]
    show some (Tok.str l, l.length + 2) = some (Tok.str l, ([34] ++ l ++ [34]).length)
    simp
  | sign c =>
    have hs : c ∈ SGN := g
    have hd : ∀ c ∈ SGN, c ∉ LET ∧ c ∉ DIG ∧ c ≠ 34 ∧ c ≠ 32 := by decide
    obtain ⟨h1, h2, h3, h4⟩ := hd c hs
    refine ⟨c, b, rfl, h4, ?_⟩
    unfold lexC
    rw [if_neg h1, if_neg h2, if_neg h3, if_pos hs]
    rfl

/-- tokens with gaps of blanks behind them -/
def joined : List (Tok × Nat) → List Nat
  | [] => []
  | (t, g) :: r => spell t ++ List.replicate g 32 ++ joined r
/-- where a gap must stand -/
def gapped : List (Tok × Nat) → Prop
  | (t, g) :: (u, h) :: r => (g = 0 → apart t (spell u ++ (List.replicate h 32 ++ joined r))) ∧ gapped ((u, h) :: r)
  | _ => True
theorem lex_blanks {l : List Nat} {o : Option (List Tok)} (h : Lex l o) : ∀ g, Lex (List.replicate g 32 ++ l) o
  | 0 => h
  | g + 1 => by
    rw [List.replicate_succ]
    exact .sp (lex_blanks h g)
/-- a joined text is split into its tokens, and what stands behind is split as it is -/
theorem lex_joined {tail : List Nat} {o : Option (List Tok)} (ht : Lex tail o) (hs : ∀ c r, tail = c :: r → c = 32) :
    ∀ (l : List (Tok × Nat)), (∀ p ∈ l, good p.1) → gapped l → Lex (joined l ++ tail) (o.map (l.map (·.1) ++ ·))
  | [], _, _ => by
    have e : (o.map (([] : List (Tok × Nat)).map (·.1) ++ ·)) = o := by cases o <;> rfl
    rw [e]
    exact ht
  | (t, g) :: r, hg, hp => by
    have hr : Lex (joined r ++ tail) (o.map (r.map (·.1) ++ ·)) := lex_joined ht hs r (fun p h => hg p (List.mem_cons_of_mem _ h)) (by cases r with | nil => trivial | cons a b => exact hp.2)
    have ap : apart t (List.replicate g 32 ++ (joined r ++ tail)) := by
      have sp : ∀ l : List Nat, apart t (32 :: l) := fun l => by
        cases t with
        | word _ => exact fun c r e => by cases e; decide
        | num _ => exact fun c r e => by cases e; decide
        | str _ => trivial
        | sign _ => trivial
      cases g with
      | succ g => exact sp _
      | zero =>
        cases r with
        | nil =>
          cases tail with
          | nil => cases t <;> first | trivial | exact fun c r e => by cases e
          | cons c q => rw [hs c q rfl]; exact sp _
        | cons a b =>
          obtain ⟨u, h⟩ := a
          have q := hp.1 rfl
          show apart t (spell u ++ List.replicate h 32 ++ joined b ++ tail)
          have ne : spell u ≠ [] := by
            have gu := hg (u, h) (by simp)
            cases u with
            | word l => exact gu.1
            | num n => exact (numT_dig gu).1
            | str l => exact fun z => by cases z
            | sign c => exact fun z => by cases z
          cases e : spell u with
          | nil => exact absurd e ne
          | cons c v =>
            rw [e] at q
            cases t with
            | word _ => exact fun c' r' e' => by cases e'; exact q c _ rfl
            | num _ => exact fun c' r' e' => by cases e'; exact q c _ rfl
            | str _ => trivial
            | sign _ => trivial
    obtain ⟨c, v, e1, e2, e3⟩ := lex_spell (hg (t, g) List.mem_cons_self) ap
    have e0 : joined ((t, g) :: r) ++ tail = spell t ++ (List.replicate g 32 ++ (joined r ++ tail)) := by
      show spell t ++ List.replicate g 32 ++ joined r ++ tail = _
      simp only [List.append_assoc]
    rw [e0, e1]
    have e4 : (c :: v).drop (spell t).length = List.replicate g 32 ++ (joined r ++ tail) := by
      rw [← e1]
      exact List.drop_left' rfl
    have := Lex.tok e2 e3 (by rw [e4]; exact lex_blanks hr g)
    cases o with
    | none => exact this
    | some ts => exact this
end K1

set_option maxRecDepth 100000
set_option maxHeartbeats 8000000
/-! an own exception over ValueError, perhaps by way of another own class, whose __init__ begins with super().__init__(..) -/
namespace GS
open PySem PySem.Spec PyProof.Rows L2 NdefX
open PySem.W (kxs_mw)
section
variable {prog : Program} {w : World} {A : Around} {E : Value → Shared → Prop} {h : Heap} {g : Array GenState} {d : Drawn} {t : Nat} {os : OsState}
variable {nm q : Str} {C N : Addr} {bs bm : List Value} {hdct : Bool} {sn : List Str} {sub : List Value} {ab : Bool} {col : Option Bool} {dd : Option Addr} {k0 k1 k2 k3 k5 : Option Value}
/-- ValueError.__init__, bound to a new exception, called -/
theorem call_mw {u e t0 : Addr} {rest : List Value} {Q : Value → Shared → Prop}
    (hC : h.get? C = some (excClassObj nm q C N bs bm hdct sn sub ab col dd k0 k1 k2 k3 k5 "ValueError.__new__")) (he : h.get? e = some (PySem.W.excObj C t0 none .none)) (hu : h.get? u = some (kxs_mw "ValueError.__init__" e)) (hrest : rest.length ≤ sizeLine)
    (hq : ∀ h', (∀ b o, b ≠ e → h.get? b = some o → h'.get? b = some o) → h'.get? e = some (PySem.W.excObj C h.objs.size none .none) → Q .none ⟨h', g, d, t, os⟩) :
    wpAny (model prog w) A (call (.ref u) rest) Q E ⟨h, g, d, t, os⟩ := by
  have FB := F.excBase_ValueError
  refine wpAny_call (codeAny_of_tree (show wpAny _ A.in1 (callAny (.ref u) ⟨rest, []⟩) _ _ _ from ?_))
  unfold callAny
  refine wpAny_bind (wpAny_load hu ?_)
  dsimp only [kxs_mw]
  refine PySem.W.KFB.if_so (by decide) (wpAny_bind (PySem.W.check_bound_init FB.toExcCallFacts hC he rfl (wpAny_bind (wpAny_pure (wpAny_pure ⟨plainId_quiet FB.init.plain _, codeAny_builtin FB.initEntry ?_⟩)))))
  exact PySem.W.exc_init_tree (cls := .ref C) (t0 := t0) (dv := none) (c2 := .none) (c3 := .none) (b4 := .bool false) he hrest fun h' k e' _ => hq h' k e'
end

section
variable {CX : CXT} {P : Program} {w : World} {K : PySem.W.Frag} {mg : Str → Option Value} {base : Heap} {k : Nat} {f cc cda D : Addr} {sp : L2.Sp} {st : Stmt} {x qual : Str} {ps : List Str} {N : List Str}
variable {oc kV dV doc pm ct ccl cl : Value} {od an cdd cld : Option Addr} {osl ccs csl : Array (Option Value)} {vs0 : Array Value} {file : Str} {tf : PySem.Tok} {cdD : ClassData}
variable {e : Expr} {es : List Expr} {rest : List Stmt} {p0 p1 p2 p3 p4 : Pos}
abbrev nf (x qual : Str) (st : Stmt) (cc cda : Addr) : NF := ⟨x, qual, defArgs st, defBody st, defScope st, [("__class__", cc)], cda⟩
/-- what the written part says of such an __init__ -/
structure SupK (P : Program) (K : PySem.W.Frag) (mg : Str → Option Value) (x qual : Str) (st : Stmt) (f cc cda D : Addr) : Prop where
  fn : ∃ oc od kV doc pm an ct osl, K.lookup f = some ⟨oc, od, .func (PySem.W.ksFn x qual (defArgs st) (defBody st) (defScope st) .none kV doc pm an (.ref cda) ct cc), osl⟩
  code : PySem.W.codeIn K (.ref cda) qual = true
  file : ∃ ccl cdd vs0 ccs file tf, K.lookup cda = some ⟨ccl, cdd, .fields vs0, ccs⟩ ∧ vs0[2]? = some (.str file tf) ∧ ((P.main.file : Str) == file) = true
  cell : ∃ cl cld csl, K.lookup cc = some ⟨cl, cld, .cell (some (.ref D)), csl⟩
  sub : PySem.W.mroIn K D (.ref D) = some true
  sup : mg "super" = none
  opq : PySem.W.nsIn K cStatics "thirdparty.any" = some none
  ini : PySem.W.ks_superIn K D D "__init__" = some (some (.builtin "ValueError.__init__"))
  isVE : PySem.W.subIn K (.ref D) (.type "ValueError") = some true
  top : (P.main.scope.names.lookup ("super" : Str)).isSome = false
  cls : OexC K D
theorem ok_super {ar : Arg} {pl : Env → Sem Bool} (T : SupK P K mg x qual st f cc cda D) (S : NScope N ps ["__class__"] (defScope st))
    (hbody : defBody st = .Expr (.Call (.Attribute (.Call (.Name "super" p0) [] [] p1) "__init__" p2) (e :: es) [] p3) p4 :: rest)
    (hks : (defScope st).names.lookup ("super" : Str) = some .globalImplicit) (hpar : ((defArgs st).posonlyargs ++ (defArgs st).args).head? = some ar) (hps : ps.head? = some ar.arg)
    (he : ∀ env, starEach (e :: es) env = (false, eval e env) :: starEach es env) (hpl : ∀ env pos, (backTo pos (starEach es env)).any (·.1) = false)
    (hc : ∀ env, eval (.Call (.Attribute (.Call (.Name "super" p0) [] [] p1) "__init__" p2) (e :: es) [] p3) env = (do
      let ov ← attributeBase (.Call (.Name "super" p0) [] [] p1) "__init__" env (eval (.Call (.Name "super" p0) [] [] p1) env)
      standAt p2.atName
      let (f, first) ← holding [ov] (getMethod ov "__init__" (pl env))
      callWith p3 f first (backTo p3 (starEach (e :: es) env)) []))
    (hsw : ∀ env, swapsWith (.Call (.Attribute (.Call (.Name "super" p0) [] [] p1) "__init__" p2) (e :: es) [] p3) none p4.line env = pure false)
    (hbi : ∀ kV doc pm an ct, Binds K (PySem.W.ksFn x qual (defArgs st) (defBody st) (defScope st) .none kV doc pm an (.ref cda) ct cc) ps [])
    (len : ∀ vs H Q E, sp vs H Q E → vs.length = ps.length)
    (hb : ∀ (A : Around) (outer : List Env) (s : Shared) (H : Hp) (vs : List V) (Q : VK) (E : XK), Room k (A.deeper (envF (nf x qual st cc cda) f s.heap.objs.size)) → sp vs H Q E →
      ∃ a ws ta t, vs = .ref a :: ws ∧ H a = some (exo a D none) ∧ PA (ncx CX P w K mg base N (nf x qual st cc cda) f A outer s H E) (e :: es) ta ∧ PSs (ncx CX P w K mg base N (nf x qual st cc cda) f A outer s H E) rest t ∧
        ta (startF N vs [some (.ref D)]) H fun us H1 => us.length ≤ 1000 ∧ H1 a = some (exo a D none) ∧ t { nx := fun _ H' => Q .non H', rt := Q } (startF N vs [some (.ref D)]) H1) :
    ∃ fd, Binds K fd ps [] ∧ FnOk P w K mg base CX (k + 1) f fd ps sp := by
  obtain ⟨oc, od, kV, doc, pm, an, ct, osl, lk⟩ := T.fn
  obtain ⟨ccl, cdd, vs0, ccs, file, tf, lcd, hvs, hfile⟩ := T.file
  obtain ⟨cl, cld, csl, lcell⟩ := T.cell
  obtain ⟨nm, q, N', bs, bm, sn, sub, ab, col, dd, k0, k1, k2, k3, k5, hC, hbm⟩ := T.cls.cls
  refine ⟨_, hbi kV doc pm an ct, len, fun A outer s H args us vs Q E hr z0 hbd r hs => ?_⟩
  have hl := len _ _ _ _ hs
  have kx : K.In s.heap := z0.mod.kin.keeps fun b o e => (z0.bs b o e).1
  have nl : s.heap.NoLimit := z0.mod.nolimit.keeps fun b o e => (z0.bs b o e).1
  have hloc : ∀ y ∈ ps.zip us, (defScope st).names.lookup y.1 = some .local := by
    rintro ⟨n, v⟩ hy
    exact S.par n (List.of_mem_zip hy).1
  have hkcl : (defScope st).names.lookup ("__class__" : Str) = some .free := S.frk "__class__" List.mem_cons_self
  have har : ar.arg ∈ ps := by
    cases ps with
    | nil => cases hps
    | cons p r => rw [Option.some.inj hps]; exact List.mem_cons_self
  refine ks_codeAny_call_defAt (fd := PySem.W.ksFn x qual (defArgs st) (defBody st) (defScope st) .none kV doc pm an (.ref cda) ct cc) (body := defBody st) hr.depth (kx _ _ lk) rfl nl (PySem.W.codeRec_of kx T.code) rfl hbd S.nocell hloc (fun h₀ hns hk => ?_) S.co S.gen S.kind
  obtain ⟨a, ws, ta, t, evs, ea, hta, ht, hrd⟩ := hb A outer s H vs Q E (hr.deeper _) hs
  have CA : CellsAt [("__class__", cc)] ["__class__"] [some (V.ref D)] s.heap H := by
    have ec : ∀ y c, ([("__class__", cc)] : List (Str × Addr)).lookup y = some c → y = "__class__" ∧ c = cc := fun y c z => by
      have m := PySem.mem_of_lookup z
      have m := List.mem_singleton.mp m
      injection m with m1 m2
      exact ⟨m1, m2⟩
    have hcell : s.heap.IsCell cc (some (.ref D)) := ⟨_, kx _ _ lcell, rfl⟩
    refine ⟨rfl, fun y c z => ?_, fun x y c z1 z2 => (ec _ _ z1).1.trans (ec _ _ z2).1.symm, fun i y hy => ?_⟩
    · obtain ⟨_, rfl⟩ := ec y c z
      exact ⟨(z0.bs _ _ (z0.mod.kin _ _ lcell)).2, _, hcell⟩
    · match i with
      | 0 =>
        cases hy
        refine ⟨cc, rfl, fun v hv => ?_⟩
        cases hv
        exact ⟨_, rfl, hcell⟩
      | i + 1 => simp at hy
  have J := inv_startN (CX := CX) (E := E) (F := nf x qual st cc cda) (f := f) (tk := s.toks + (ps.zip us).length) S hr.hd z0 hl r CA hns hk
  have kx1 : K.In h₀ := J.kIn
  obtain ⟨hp, g, dr, tk, os⟩ := s
  have hcl : PySem.W.clsIn K D = some { name := nm, bases := bs, mro := .ref D :: bm, ns := N', qualname := q, hasDict := true, slotNames := sn, subclasses := sub, abstract := ab, collection := col, hasDel := false } := by
    unfold PySem.W.clsIn
    rw [hC]
  have ini := T.ini
  unfold PySem.W.ks_superIn at ini
  rw [hcl] at ini
  have haD : a ≠ D := fun z => by
    rw [z, (z0.bs _ _ (z0.mod.kin _ _ hC)).2] at ea
    cases ea
  have e1 : execs (defBody st) (envF (nf x qual st cc cda) f hp.objs.size) = execs (.Expr (.Call (.Attribute (.Call (.Name "super" p0) [] [] p1) "__init__" p2) (e :: es) [] p3) p4 :: rest) (envF (nf x qual st cc cda) f hp.objs.size) := by rw [hbody]
  show PySem.wpAt (model P w) (A.deeper (envF (nf x qual st cc cda) f hp.objs.size)) (.func (defBody st) (envF (nf x qual st cc cda) f hp.objs.size)) (execs (defBody st) (envF (nf x qual st cc cda) f hp.objs.size)) _ _ _
  rw [e1]
  have hin : interactive (envF (nf x qual st cc cda) f hp.objs.size) = false := by
    unfold interactive
    have e9 : (envF (nf x qual st cc cda) f hp.objs.size).scope.kind = .function := S.kind
    rw [e9]
    rfl
  refine ks_wpAt_execs_cons (ks_wpAt_Expr_any (ks_wpAt_MethodCall ?_ (hc _)) hin (hsw _))
  refine ks_wpAt_super_base hks hkcl (by decide) rfl (kx1 _ _ lk) rfl hpar rfl (kx1 _ _ lcd) rfl hvs hfile T.top ?_
  obtain ⟨mb, hb1, hb2⟩ := J.mod.blt
  refine PySem.W.ks_loadName_global S.kind hks (Calls.loadGlobal_builtin (J.mod.glob.keeps J.bk) T.sup (hb1.keeps J.bk) ((hb2 "super" (by decide)).trans (by kernel_rfl : bootBuiltins "super" = some (.type "super"))) ⟨rfl, ?_⟩)
  refine wpAny_loadName_free S.kind hkcl rfl ⟨_, kx1 _ _ lcell, rfl⟩ ?_
  have hself : (ps.zip us).reverse.lookup ar.arg = some (.ref a) := by
    subst evs
    cases r with
    | @cons _ u0 _ ur ra rw' =>
      obtain rfl : u0 = Value.ref a := ra
      have ndP : ps.Nodup := by
        have q := S.nd.sublist (List.take_sublist (ps.length + 1) N)
        have e9 : N.take (ps.length + 1) = ps ++ [("__class__" : Str)] := S.pre
        rw [e9] at q
        exact (List.nodup_append.mp q).1
      refine zip_look (i := 0) ndP ?_ rfl
      rw [← List.head?_eq_getElem?]
      exact hps
  refine wpAny_loadName_local S.kind (S.par ar.arg har) hns hself ?_
  refine ks_wpAny_isType_cls (kx1 _ _ hC) rfl ⟨rfl, ?_⟩
  obtain ⟨t1, ho⟩ := exo_at J.hok ea
  refine ks_wpAny_call_super (kx1 _ _ hC) rfl ho rfl (fun c z => by cases z) (PySem.W.looks_mroIn kx1 T.sub) (fun h1 hso k1 => ?_)
  have J1 := J.kept (t' := tk + (ps.zip us).length) k1
  have kx2 : K.In h1 := J1.kIn
  have I1 : PySem.W.InstAt h1 a _ D none := ⟨k1 _ _ ho, rfl, rfl, trivial⟩
  refine PySem.W.kxs_getMethod PySem.W.kxs_ValueError hso (PySem.W.looks_opaque kx2 T.opq) ((PySem.W.looks_clsIn kx2 hcl).andThen .now) rfl kx2 ini (I1.type.andThen (PySem.W.looks_subIn kx2 T.isVE)) haD (by decide) ?_
  have J2 := (J1.kept (t' := tk + (ps.zip us).length + 1) (fun b o z => Heap.get?_push_of_some (kxs_mw "ValueError.__init__" a) z)).pins_of (pins' := [(h1.objs.size, kxs_mw "ValueError.__init__" a)]) fun p hp' => by
    rw [List.mem_singleton.mp hp']
    exact ⟨Heap.get?_push_size _ rfl, J1.hok.fresh (Nat.le_refl _), Nat.ne_of_gt J1.lt, J1.nofs (Nat.le_refl _), fun v z => by cases z⟩
  refine PySem.W.kxs_callWith (i := "ValueError.__init__") (x := a) (by rw [he]; show (false || _) = false; rw [Bool.false_or]; exact hpl _ _) ?_
  rw [he]
  refine Calls.evalArgs_plain ?_
  have run := hta.run p3 _ _ _ H _ J2 hrd
  rw [he] at run
  refine thn run fun us3 s3 hAP => ?_
  obtain ⟨vs3, H3, I3, r3, hlen, ea3, q3⟩ := hAP
  refine ⟨(I3.pin _ List.mem_cons_self).1, ?_⟩
  obtain ⟨t3, ho3⟩ := exo_at I3.hok ea3
  have hu3 := (I3.pin _ List.mem_cons_self).1
  obtain ⟨hp3, g3, dr3, tk3, os3⟩ := s3
  refine call_mw (I3.kIn _ _ hC) ho3 hu3 ?_ fun h4 k4 he4 => ?_
  · show us3.length ≤ _
    rw [← Paired.length r3, sizeLine_eq]
    omega
  have J4 := I3.write (t' := tk3) (x := a) (e := a) (o := exo a D none) (by rw [ea3]; exact True.intro) (.inl rfl) k4 ⟨_, he4⟩ (exo_ok he4)
  have eu : upd H3 a (exo a D none) = H3 := by
    funext b
    by_cases hb' : b = a
    · rw [hb', upd_same, ea3]
    · rw [upd_ne hb']
  rw [eu] at J4
  have J5 := J4.pins_of (pins' := []) fun p hp' => by cases hp'
  refine wpAt_of_wpAny (wpAny_mono (ht.run [] _ _ H3 _ J5 q3) (fun fl s' hs' => ?_) fun e s' hs' => hs')
  cases fl with
  | ret u =>
    obtain ⟨v, σ2, H2, I2, rv, q⟩ := hs'
    exact ⟨v, H2, I2.os, I2.bare, I2.base, I2.hok, rv, q⟩
  | next =>
    obtain ⟨σ2, H2, I2, q⟩ := hs'
    exact ⟨V.non, H2, I2.os, I2.bare, I2.base, I2.hok, rfl, q⟩
  | brk =>
    obtain ⟨_, _, _, q⟩ := hs'
    exact q.elim
  | cont =>
    obtain ⟨_, _, _, q⟩ := hs'
    exact q.elim
end
end GS

set_option maxRecDepth 100000
set_option maxHeartbeats 8000000
/-! try with several clauses, each with a name of its own or none -/
namespace GS
open PySem PySem.Spec PyProof.Rows L2
abbrev Suite := Addr → Value → Option Addr → TS
/-- the ends of a suite whose name, in slot i, is gone behind it -/
def gone (D : Ends) (i : Nat) : Ends := { nx := fun σ H => D.nx (σ.set i none) H, rt := D.rt, bk := fun σ H => D.bk (σ.set i none) H, ct := fun σ H => D.ct (σ.set i none) H }
/-- what the clauses wish, one after the other; none left: W -/
def wA (K : PySem.W.Frag) (W : WX) (D : Ends) : List (Value × Option Nat × Suite) → WX
  | [] => W
  | (c, o, ts) :: r => fun cls d σ H => ∃ b, PySem.W.exmOne K cls c = some b ∧
      (b = true → ∀ a, H a = none → match o with
        | none => ts a cls d D σ H
        | some i => ts a cls d (gone D i) (σ.set i (some (.ref a))) H) ∧ (b = false → wA K W D r cls d σ H)
inductive Clauses (X : Cx) : List ExceptHandler → List (Value × Option Nat × Suite) → Prop
  | nil : Clauses X [] []
  | bare {x : Str} {c : Value} {ts : Suite} {b₀ : Stmt} {su : List Stmt} {q1 q2 : Pos} {hs : List ExceptHandler} {l : List (Value × Option Nat × Suite)} (hc : Names X x c)
      (hsu : ∀ (a : Addr) (oe : Obj) (cls : Value) (d : Option Addr) (pn : List (Addr × Obj)), Zc cls d oe → (∃ vs, oe.data = .fields vs) → PSs (X.suite a ((a, oe) :: pn)) (b₀ :: su) (ts a cls d)) (r : Clauses X hs l) :
      Clauses X (.ExceptHandler (some (.Name x q1)) none (b₀ :: su) q2 :: hs) ((c, none, ts) :: l)
  | named {x n : Str} {i : Nat} {c : Value} {ts : Suite} {b₀ : Stmt} {su : List Stmt} {q1 q2 : Pos} {hs : List ExceptHandler} {l : List (Value × Option Nat × Suite)} (hc : Names X x c) (hi : X.N[i]? = some n) (hn : X.env.kindOf n = some .local)
      (hsu : ∀ (a : Addr) (oe : Obj) (cls : Value) (d : Option Addr) (pn : List (Addr × Obj)), Zc cls d oe → (∃ vs, oe.data = .fields vs) → PSs (X.suite a ((a, oe) :: pn)) (b₀ :: su) (ts a cls d)) (r : Clauses X hs l) :
      Clauses X (.ExceptHandler (some (.Name x q1)) (some n) (b₀ :: su) q2 :: hs) ((c, some i, ts) :: l)
section
variable {X : Cx} {body : List Stmt} {h₀ : ExceptHandler} {hds : List ExceptHandler} {l : List (Value × Option Nat × Suite)} {pos : Pos} {tb : WX → TS} {Wout : WX}
/-- the clause's class, read where the exception is handled -/
theorem cls_read {x : Str} {c : Value} {np : Pos} {a : Addr} {pn : List (Addr × Obj)} {σ : L2.St} {H : Hp} {s : Shared} (hc : Names X x c) (S : Inv (X.suite a pn) [] σ H s) {Q : Value → Shared → Prop} {E : Value → Shared → Prop} (q : Q c s) :
    wpAny (model X.prog X.w) (X.A.mark (some (.ref a))) (eval (.Name x np) X.env) Q E s := by
  obtain ⟨hg, hdb, h | ⟨hm, hv, hn⟩⟩ := hc
  · exact ld_glob (X := X.suite a pn) S hg h q hdb
  · exact ld_blt (X := X.suite a pn) S hg hm hv q hn hdb
theorem ps_tryA (hs : X.stack = X.env :: X.outer) (hf : X.env.frame = some X.env.locals) (hN : X.N.Nodup) (tk : Takes X Wout)
    (hb : ∀ (W : WX) (pn : List (Addr × Obj)) (xe : Value → Shared → Prop), Takes (X.tr pn xe) W → PassesOwn (model X.prog X.w) X.A X.env xe → PSs (X.tr pn xe) body (tb W))
    (hh : Clauses X (h₀ :: hds) l) : PS X (.Try body (h₀ :: hds) [] [] pos) (fun D σ H => tb (wA X.K Wout D l) D σ H) := by
  refine ⟨fun pins s σ H D I h => wpAny_Try_except ?_⟩
  have ok := I.ok
  have hfr : X.A.frames = some (X.env :: X.outer) := by rw [ok.frames, hs]
  let xe : Value → Shared → Prop := fun e s₁ => wpAny (model X.prog X.w) X.A (noteFrame e X.env) (fun _ s₂ => wpAny (model X.prog X.w) X.A (setFlight e none) (fun _ s₃ => wpAny (model X.prog X.w) X.A (handleBy e X.env (h₀ :: hds)) (SP X pins D) X.xe s₃) X.xe s₂) X.xe s₁
  refine wpAny_mono ((hb (wA X.K Wout D l) (X.pn ++ pins) xe (fun u s' xx => ?_) PassesOwn.looking).run [] s σ H D (I.toTry _) h) (fun f s1 hsp => ?_) (fun e s1 he => he)
  rotate_left
  · cases f with
    | ret u =>
      obtain ⟨v, σ', H', J', r, q⟩ := hsp
      exact ⟨v, σ', H', J'.ofTry ok, r, q⟩
    | next =>
      obtain ⟨σ', H', J', q⟩ := hsp
      exact wpAny_execs_nil ⟨σ', H', J'.ofTry ok, q⟩
    | brk =>
      obtain ⟨σ', H', J', q⟩ := hsp
      exact ⟨σ', H', J'.ofTry ok, q⟩
    | cont =>
      obtain ⟨σ', H', J', q⟩ := hsp
      exact ⟨σ', H', J'.ofTry ok, q⟩
  obtain ⟨a, B, sI, pins', σ', H', cls, d, rfl, J', nb, up, sky, na, os, ag, w⟩ := xx
  have J : Inv X pins σ' H' sI := J'.ofTry ok
  have sky' : Sky B (X.env :: X.outer) a (Zc cls d) X.env.locals s'.heap := hs ▸ sky
  show wpAny _ X.A (noteFrame (.ref a) X.env) _ _ _
  refine Sky.land Zc.steady hfr hf sky' fun h3 fl3 up3 => ?_
  have J3 : Inv X pins σ' H' { s' with heap := h3 } := J.landed nb fl3.1 (up.trans up3) os ag
  obtain ⟨oe3, vs3, he3, hz3, hd3⟩ := fl3.there
  have nfr : a ∉ frs (X.env :: X.outer) := fun hm => by
    obtain ⟨_, o', e', hnf⟩ := fl3.2.2.1.mem hm
    rw [he3] at e'
    cases e'
    exact hnf _ hd3
  have nL : a ≠ X.env.locals := fun z => nfr (List.mem_filterMap.mpr ⟨X.env, List.mem_cons_self, by rw [hf, z]⟩)
  have nF : a ∉ X.fs := fun hm => by
    obtain ⟨e, he, q⟩ := List.mem_filterMap.mp hm
    exact nfr (List.mem_filterMap.mpr ⟨e, List.mem_cons_of_mem _ he, q⟩)
  have S3 := J3.suite he3 hd3 na nL nF
  have go : ∀ {hds' : List ExceptHandler} {l' : List (Value × Option Nat × Suite)}, Clauses X hds' l' → wA X.K Wout D l' cls d σ' H' →
      wpAny (model X.prog X.w) X.A (handleBy (.ref a) X.env hds') (SP X pins D) X.xe { s' with heap := h3 } := by
    intro hds' l' hk
    induction hk with
    | nil =>
      intro w
      refine wpAny_handleBy_nil ?_
      obtain ⟨_, _, _, oe, vs, T, oT, ts', he, hz, hd, h1, hr⟩ := id fl3
      unfold PySem.passOn
      refine wpAny_bind (wpAny_field he hd h1 ?_)
      rw [if_neg (show ¬ ((Value.ref T == Value.none) = true) from by simp)]
      have fin : wpAny (model X.prog X.w) X.A (setFlight (.ref a) X.env.frame) (fun _ s4 => wpAny (model X.prog X.w) X.A (throw (.ref a) : Sem Flow) (SP X pins D) X.xe s4) X.xe { s' with heap := h3 } := by
        rw [hf]
        exact HandSPX.setFlight_upZ fl3 fun h4 hh4 up4 => wpAny_throw (tk _ _ ⟨a, B, sI, pins, σ', H', cls, d, rfl, J, nb, (up.trans up3).trans up4, .inr (.inr (by rw [hs]; exact hh4)), na, os, ag, w⟩)
      first
        | exact wpAny_bind (wpAny_pure (wpAny_bind fin))
        | exact wpAny_bind fin
    | @bare x c ts b₀ su q1 q2 hds2 l2 hc hsu r ih =>
      intro w
      obtain ⟨b, hb1, hyes, hno⟩ := w
      have LT : PySem.W.Looks (model X.prog X.w) h3 (typeOf (.ref a)) cls := fun A Q E s k q => wpAny_typeOf_ref (k _ _ he3) (by rw [hz3.1]; exact q)
      refine wpAny_handleBy_cons (codeAny_handlers_test (cls_read hc S3 ((PySem.W.exm_one (M := model X.prog X.w) J3.kIn LT hb1).here ?_))) (by intro q; cases q)
      cases b with
      | false => exact ih (hno rfl)
      | true =>
        refine codeAny_handlers_suite (HandSPX.lands_againZ fl3 fun h4 fl4 up4 => ?_)
        have J4 : Inv X pins σ' H' { s' with heap := h4 } := J.landed nb fl4.1 ((up.trans up3).trans up4) os ag
        obtain ⟨oe4, vs4, he4, hz4, hd4⟩ := fl4.there
        refine wpAny_mono ((hsu a oe4 cls d (X.pn ++ pins) hz4 ⟨_, hd4⟩).run [] _ _ H' _ (J4.suite he4 hd4 na nL nF) (hyes rfl a na)) (fun f s6 hsp => ?_) (fun _ _ z => False.elim z)
        cases f with
        | ret u =>
          obtain ⟨v6, σ6, H6, S6, r6, q6⟩ := hsp
          exact ⟨v6, σ6, H6, S6.unsuite ok, r6, q6⟩
        | next =>
          obtain ⟨σ6, H6, S6, q6⟩ := hsp
          exact ⟨σ6, H6, S6.unsuite ok, q6⟩
        | brk =>
          obtain ⟨σ6, H6, S6, q6⟩ := hsp
          exact ⟨σ6, H6, S6.unsuite ok, q6⟩
        | cont =>
          obtain ⟨σ6, H6, S6, q6⟩ := hsp
          exact ⟨σ6, H6, S6.unsuite ok, q6⟩
    | @named x n i c ts b₀ su q1 q2 hds2 l2 hc hi hln hsu r ih =>
      intro w
      obtain ⟨b, hb1, hyes, hno⟩ := w
      have LT : PySem.W.Looks (model X.prog X.w) h3 (typeOf (.ref a)) cls := fun A Q E s k q => wpAny_typeOf_ref (k _ _ he3) (by rw [hz3.1]; exact q)
      refine wpAny_handleBy_cons (codeAny_handlers_test (cls_read hc S3 ((PySem.W.exm_one (M := model X.prog X.w) J3.kIn LT hb1).here ?_))) (by intro q; cases q)
      cases b with
      | false => exact ih (hno rfl)
      | true =>
        refine codeAny_handlers_suite_as (HandSPX.lands_againZ fl3 fun h4 fl4 up4 => ?_)
        have J4 : Inv X pins σ' H' { s' with heap := h4 } := J.landed nb fl4.1 ((up.trans up3).trans up4) os ag
        obtain ⟨oe4, vs4, he4, hz4, hd4⟩ := fl4.there
        refine store_ok (X := X.suite a ((a, oe4) :: (X.pn ++ pins))) (v := .ref a) (J4.suite he4 hd4 na nL nF) hN hi (.inl hln) rfl (fun s5 S5 => ?_) (.inr hln)
        refine wpAny_mono ((hsu a oe4 cls d (X.pn ++ pins) hz4 ⟨_, hd4⟩).run [] s5 _ H' _ S5 (hyes rfl a na)) (fun f s6 hsp => ?_) (fun _ _ z => False.elim z)
        have fin : ∀ {σ6 : L2.St} {H6 : Hp} {Q : Shared → Prop}, Inv (X.suite a ((a, oe4) :: (X.pn ++ pins))) [] σ6 H6 s6 → (∀ s7, Inv X pins (σ6.set i none) H6 s7 → Q s7) →
            wpAny (model X.prog X.w) X.A (do bindName X.env n .none; unbindBehindTheSuite X.env n q2) (fun _ s7 => Q s7) X.xe s6 := fun S6 hq => gone_ok (S6.unsuite ok) hN hi hln hq
        cases f with
        | ret u =>
          obtain ⟨v6, σ6, H6, S6, r6, q6⟩ := hsp
          exact fin S6 fun s7 J7 => ⟨_, _, _, J7, r6, q6⟩
        | next =>
          obtain ⟨σ6, H6, S6, q6⟩ := hsp
          exact fin S6 fun s7 J7 => ⟨_, _, J7, q6⟩
        | brk =>
          obtain ⟨σ6, H6, S6, q6⟩ := hsp
          exact fin S6 fun s7 J7 => ⟨_, _, J7, q6⟩
        | cont =>
          obtain ⟨σ6, H6, S6, q6⟩ := hsp
          exact fin S6 fun s7 J7 => ⟨_, _, J7, q6⟩
  exact go hh w
end
end GS

set_option maxRecDepth 100000
set_option maxHeartbeats 4000000
namespace K1
open PySem PySem.Spec PyProof.Rows L2 GD
/-! ### the text -/
def topS (i : Nat) : Stmt := PySem.Challenge.pw_sameasnew_k61_holders.main.body.getD i (.Pass ⟨0, 0, 0, 0⟩)
abbrev sCell : Stmt := topS 21
abbrev sDigits : Stmt := topS 22
abbrev sDraw : Stmt := topS 23
/-- what the top leaves to the built-ins -/
structure Txt (K : PySem.W.Frag) (mg : Str → Option Value) : Prop where
  len : mg "len" = none
  range : mg "range" = none
  bint : mg "int" = none
  blist : mg "list" = none
  repr : mg "repr" = none
def Box (H : Hp) (b d : Addr) (ds : List Int) (at_ : Nat) : Prop :=
  H b = some (.lst [.ref d, .int at_]) ∧ H d = some (.lst (ds.map V.int)) ∧ ds.length ≤ 4000
theorem Box.ne {H : Hp} {b d : Addr} {ds : List Int} {at_ : Nat} (h : Box H b d ds at_) : d ≠ b := fun e => by
  obtain ⟨h1, h2, _⟩ := h
  rw [e, h1] at h2
  have q : [V.ref d, V.int at_] = ds.map V.int := by
    have := Option.some.inj h2
    injection this
  cases ds with
  | nil => cases q
  | cons x r => cases q
section
variable {P : Program} {w : World} {K : PySem.W.Frag} {mg : Str → Option Value} {base : Heap}
def spCell (K : PySem.W.Frag) : Sp := fun vs H Q _ => ∃ (a : Addr) (ns : List Int) (k : Nat), vs = [.ref a, .int k] ∧ SqL K H a (ns.map V.int) ∧ ∀ v : Int, Q (.int v) H
theorem scCell : FnScope ["script", "k"] ["script", "k"] (defScope sCell) := ⟨rfl, rfl, rfl, by decide +kernel, rfl, by decide +kernel, by decide +kernel⟩
theorem ok_cell {f : Addr} {fd : FuncData} (F : Fun K "_law_cell" "_law_cell" sCell f fd) (T : Txt K mg) : FnOk P w K mg base CX0 1 f fd ["script", "k"] (spCell K) := by
  have sc := scCell
  refine F.ok sc (fun vs H Q E h => ?_) (fun cdv A outer s H vs Q E hr h => ?_)
  · obtain ⟨a, ns, k, rfl, _⟩ := h
    rfl
  · obtain ⟨a, ns, k, rfl, hS, q⟩ := h
    refine ⟨_, (pss_cons (ps_if (pt_cmpR op_lt (pv 1) (pe_callB call_len_seq (by rfl) T.len (by decide +kernel) (pa_cons (pv 0) pa_nil)) (nomark _))
      (pss_one (ps_ret (pe_ix ix_list (pv 0) (pv 1) (fun _ _ => rfl)))) pss_nil)
      (pss_one (ps_ret pe_int))), ?_⟩
    refine ⟨_, rfl, _, rfl, a, _, rfl, .inl hS, _, _, rfl, rfl, _, rfl, ite2 (fun e => ?_) (fun e => ?_)⟩
    · have hk : k < ns.length := by
        have := of_decide_eq_true e
        rw [List.length_map] at this
        omega
      exact ⟨_, rfl, _, rfl, a, _, _, .int ns[k], rfl, rfl, hS, atI_nat (by rw [List.getElem?_map, List.getElem?_eq_getElem hk]; rfl), q _⟩
    · exact q 0
def spDraw : Sp := fun vs H Q _ => ∃ (b d : Addr) (ds : List Int) (at_ : Nat) (m : Int), vs = [.ref b, .int m] ∧ Box H b d ds at_ ∧ 0 < m ∧
  ∀ r : Int, 0 ≤ r → r < m → Q (.int r) (upd H b (.lst [.ref d, .int ((at_ + 1 : Nat) : Int)]))
theorem scDraw : FnScope ["box", "many", "at"] ["box", "many"] (defScope sDraw) := ⟨rfl, rfl, rfl, by decide +kernel, rfl, by decide +kernel, by decide +kernel⟩
theorem ok_draw {f : Addr} {fd : FuncData} (F : Fun K "_law_draw" "_law_draw" sDraw f fd) (T : Txt K mg) : FnOk P w K mg base CX0 1 f fd ["box", "many"] spDraw := by
  have sc := scDraw
  refine F.ok sc (fun vs H Q E h => ?_) (fun cdv A outer s H vs Q E hr h => ?_)
  · obtain ⟨b, d, ds, at_, m, rfl, _⟩ := h
    rfl
  · obtain ⟨b, d, ds, at_, m, rfl, hB, hm, q⟩ := h
    refine ⟨_, (pss_cons (ps_set (i := 2) sc.nd rfl (.inl rfl) (pe_ix ix_list (pv 0) pe_int (fun _ _ => rfl)))
      (pss_cons (ps_asg (pe_op op_add (pv 2) pe_int) (pg_sub (pv 0) pe_int set_list))
      (pss_cons (ps_if (pt_cmpR op_lt (pv 2) (pe_callB call_len_seq (by rfl) T.len (by decide +kernel) (pa_cons (pe_ix ix_list (pv 0) pe_int (fun _ _ => rfl)) pa_nil)) (nomark _))
      (pss_one (ps_ret (pe_op op_mod (pe_callTy call_int1 (by rfl) T.bint (by decide +kernel) (pa_cons (pe_ix ix_list (pe_ix ix_list (pv 0) pe_int (fun _ _ => rfl)) (pv 2) (fun _ _ => rfl)) pa_nil)) (pv 1)))) pss_nil)
      (pss_one (ps_ret (pe_op op_mod (pe_callTy call_int1 (by rfl) T.bint (by decide +kernel) (pa_cons (pe_op op_add (pe_op op_mul (pv 2) pe_int) pe_int) pa_nil)) (pv 1))))))), ?_⟩
    obtain ⟨h1, h2, h3⟩ := hB
    have nd : d ≠ b := Box.ne ⟨h1, h2, h3⟩
    refine ⟨_, rfl, b, _, 1, .int at_, rfl, rfl, SqL.of h1, atI_nat (j := 1) rfl, ?_⟩
    refine ⟨_, rfl, _, _, rfl, rfl, _, rfl, b, _, 1, 1, rfl, rfl, h1, rfl, ?_⟩
    have e1 : upd H b (.lst ([V.ref d, V.int at_].set 1 (.int ((at_ : Int) + 1)))) b = some (.lst [.ref d, .int ((at_ + 1 : Nat) : Int)]) := upd_same
    have e2 : upd H b (.lst ([V.ref d, V.int at_].set 1 (.int ((at_ : Int) + 1)))) d = some (.lst (ds.map V.int)) := by rw [upd_ne nd]; exact h2
    refine ⟨_, rfl, _, rfl, b, _, 0, .ref d, rfl, rfl, SqL.of e1, atI_nat (j := 0) rfl, d, _, rfl, .inl (SqL.of e2), _, _, rfl, rfl, _, rfl, ite2 (fun e => ?_) (fun e => ?_)⟩
    · have hk : at_ < ds.length := by
        have := of_decide_eq_true e
        rw [List.length_map] at this
        omega
      refine ⟨_, rfl, b, _, 0, .ref d, rfl, rfl, SqL.of e1, atI_nat (j := 0) rfl, _, rfl, d, _, _, .int ds[at_], rfl, rfl, SqL.of e2, atI_nat (by rw [List.getElem?_map, List.getElem?_eq_getElem hk]; rfl), .inl ⟨_, rfl, ?_⟩⟩
      exact ⟨_, rfl, _, _, rfl, rfl, hm, q _ (Int.emod_nonneg _ (by omega)) (Int.emod_lt_of_pos _ hm)⟩
    · refine ⟨_, rfl, _, _, rfl, rfl, .inr (by decide), _, _, rfl, rfl, .inl ⟨_, rfl, ?_⟩⟩
      exact ⟨_, rfl, _, _, rfl, rfl, hm, q _ (Int.emod_nonneg _ (by omega)) (Int.emod_lt_of_pos _ hm)⟩
end
end K1

set_option maxRecDepth 100000
set_option maxHeartbeats 4000000
namespace K1
open PySem PySem.Spec PyProof.Rows L2 GD
section
variable {P : Program} {w : World} {K : PySem.W.Frag} {mg : Str → Option Value} {base : Heap}

theorem snoc_ints (ds : List Int) (x : Int) : ds.map V.int ++ [V.int x] = (ds ++ [x]).map V.int := by rw [List.map_append]; rfl
theorem Same.lst {H H1 : Hp} {D : Addr} {o : HO} (s : Same H H1) (n : H D = none) : Same H (upd H1 D o) := fun b u e => by
  rw [upd_ne (ne_of_none e n)]
  exact s b u e

def spDigits (K : PySem.W.Frag) : Sp := fun vs H Q _ => ∃ (a : Addr) (ns : List Int), vs = [.ref a, .int 0, .int 63] ∧ SqL K H a (ns.map V.int) ∧
  ∀ (H' : Hp) (D : Addr) (ds : List Int), Same H H' → H D = none → H' D = some (.lst (ds.map V.int)) → ds.length ≤ 4000 → Q (.ref D) H'
theorem scDigits : FnScope ["script", "first", "last", "digits", "k", "cell", "turn", "seed"] ["script", "first", "last"] (defScope sDigits) := ⟨rfl, rfl, rfl, by decide +kernel, rfl, by decide +kernel, by decide +kernel⟩
theorem ok_digits {f fc : Addr} {fd fdc : FuncData} (F : Fun K "_law_digits" "_law_digits" sDigits f fd) (T : Txt K mg) (FC : FnOk P w K mg base CX0 1 fc fdc ["script", "k"] (spCell K))
    (mc : mg "_law_cell" = some (.ref fc)) (kc : PySem.W.keepIn K (.ref fc) = true) (bc : Binds K fdc ["script", "k"] []) : FnOk P w K mg base CX0 2 f fd ["script", "first", "last"] (spDigits K) := by
  have sc := scDigits
  refine F.ok sc (fun vs H Q E h => ?_) (fun cdv A outer s H vs Q E hr h => ?_)
  · obtain ⟨a, ns, rfl, _⟩ := h
    rfl
  · obtain ⟨a, ns, rfl, hS, q⟩ := h
    refine ⟨_, (pss_cons (ps_set (i := 3) sc.nd rfl (.inl rfl) (pe_lst pa_nil))
(pss_cons (ps_for PassesOwn.never rfl (pi_range2 rfl T.range (pa_cons (pv 1) (pa_cons (pv 2) pa_nil))) (pg_name (i := 4) sc.nd rfl (.inl rfl))
(pss_cons (ps_set (i := 5) sc.nd rfl (.inl rfl) (pe_call FC hr (by rfl) mc kc bc .nil pass0 (pa_cons (pv 0) (pa_cons (pv 4) pa_nil))))
(C8.pss_cut (ps_if (pt_cmpR op_lt (pv 5) pe_int (nomark _))
(pss_one (ps_set (i := 5) sc.nd rfl (.inl rfl) (pe_op op_sub pe_int (pe_op op_mul pe_int (pv 5))))) pss_nil)
(pss_one (ps_if (pt_cmpR op_ge (pv 5) pe_int (nomark _))
(pss_one (ps_for PassesOwn.never rfl (pi_range1 rfl T.range (pa_cons pe_int pa_nil)) (pg_name (i := 6) sc.nd rfl (.inl rfl))
(pss_one (ps_if (pt_cmpR op_gt (pv 5) pe_int (nomark _))
(pss_cons (ps_expr (pe_bm PySem.F.plainAttrs_list PySem.F.slot_list_append PySem.F.type_list_append mt_append (pv 3) (pa_cons (pe_op op_mod (pe_callTy call_int1 (by rfl) T.bint (by decide +kernel) (pa_cons (pv 5) pa_nil)) pe_int) pa_nil)))
(pss_one (ps_set (i := 5) sc.nd rfl (.inl rfl) (pe_op op_fdiv (pv 5) pe_int)))) pss_nil)))) (pss_cons (ps_set (i := 7) sc.nd rfl (.inl rfl) (pe_op op_mod (pe_callTy call_int1 (by rfl) T.bint (by decide +kernel) (pa_cons (pe_op op_add (pe_op op_add (pe_op op_mul (pv 5) pe_int) (pe_op op_mul (pv 4) pe_int)) pe_int) pa_nil)) pe_int))
(pss_one (ps_for PassesOwn.never rfl (pi_range1 rfl T.range (pa_cons pe_int pa_nil)) (pg_name (i := 6) sc.nd rfl (.inl rfl))
(pss_cons (ps_set (i := 7) sc.nd rfl (.inl rfl) (pe_op op_mod (pe_callTy call_int1 (by rfl) T.bint (by decide +kernel) (pa_cons (pe_op op_add (pe_op op_add (pe_op op_mul (pv 7) pe_int) (pe_op op_mul pe_int (pv 6))) pe_int) pa_nil)) pe_int))
(pss_one (ps_expr (pe_bm PySem.F.plainAttrs_list PySem.F.slot_list_append PySem.F.type_list_append mt_append (pv 3) (pa_cons (pe_op op_mod (pe_callTy call_int1 (by rfl) T.bint (by decide +kernel) (pa_cons (pe_op op_fdiv (pv 7) pe_int) pa_nil)) pe_int) pa_nil)))))))))))))
(pss_one (ps_ret (pv 3))))), ?_⟩
    refine ⟨Nat.zero_le _, fun D hD => ?_⟩
    refine ⟨_, rfl, _, rfl, 0, 63, rfl, ⟨by decide, by decide, by decide, by decide⟩, for_range (lo := 0) (n := 63) (fun i σ H' => ∃ (ds : List Int) (y4 y5 y6 y7 : Option V), σ = [some (.ref a), some (.int 0), some (.int 63), some (.ref D), y4, y5, y6, y7] ∧ Same H H' ∧ H' D = some (.lst (ds.map V.int)) ∧ ds.length ≤ 60 * i)
      ⟨[], none, none, none, none, rfl, Same.lst (Same.refl H) hD, upd_same, Nat.zero_le _⟩ ?_ ?_⟩
    · rintro i σ H1 hi ⟨ds, y4, y5, y6, y7, rfl, s1, e1, l1⟩
      refine ⟨_, rfl, _, rfl, a, ns, i, by rw [Int.zero_add]; rfl, s1.seq hS, fun c => ?_⟩
      refine ⟨fun σ' H' => ∃ c : Int, σ' = [some (.ref a), some (.int 0), some (.int 63), some (.ref D), some (.int (0 + (i : Nat))), some (.int c), y6, y7] ∧ H' = H1, ⟨_, rfl, _, _, rfl, rfl, _, rfl, ite2 (fun _ => ?_) (fun _ => ?_)⟩, ?_⟩
      · exact ⟨_, rfl, _, _, rfl, rfl, .inl (by decide), _, _, rfl, rfl, _, rfl, rfl⟩
      · exact ⟨_, rfl, rfl⟩
      · rintro σ' H' ⟨c, rfl, rfl⟩
        have big : ∀ {n : Nat}, n ≤ 5000 → n < sizeLine := fun h => Nat.lt_of_le_of_lt h (by decide)
        refine ⟨_, rfl, _, _, rfl, rfl, _, rfl, ite2 (fun _ => ?_) (fun _ => ?_)⟩
        · refine ⟨_, rfl, by decide, by decide, for_range (lo := 0) (n := 60) (fun j σ H' => ∃ (ds2 : List Int) (c2 : Int) (y6 : Option V), σ = [some (.ref a), some (.int 0), some (.int 63), some (.ref D), some (.int (0 + (i : Nat))), some (.int c2), y6, y7] ∧ Same H H' ∧ H' D = some (.lst (ds2.map V.int)) ∧ ds2.length ≤ 60 * i + j)
            ⟨ds, c, y6, rfl, s1, e1, l1⟩ ?_ ?_⟩
          · rintro j σ H2 hj ⟨ds2, c2, y6, rfl, s2, e2, l2⟩
            refine ⟨_, rfl, _, _, rfl, rfl, _, rfl, ite2 (fun _ => ?_) (fun _ => ?_)⟩
            · refine ⟨_, rfl, .inl ⟨rfl, _, SqL.of e2⟩, _, rfl, .inl ⟨_, rfl, _, _, rfl, rfl, (by show (0 : Int) < 1000; decide), D, _, _, rfl, rfl, e2, ?_, ?_⟩⟩
              · rw [List.length_map]
                exact big (by omega)
              · refine ⟨_, rfl, _, _, rfl, rfl, ⟨by decide, by decide⟩, ds2 ++ [c2 % 1000], _, _, rfl, Same.lst s2 hD, ?_, ?_⟩
                · rw [upd_same, snoc_ints]
                · rw [List.length_append, List.length_singleton]
                  omega
            · exact ⟨ds2, c2, _, rfl, s2, e2, by omega⟩
          · rintro σ H2 ⟨ds2, c2, y6, rfl, s2, e2, l2⟩
            exact ⟨ds2, _, _, _, _, rfl, s2, e2, by omega⟩
        · refine ⟨_, rfl, _, _, rfl, rfl, .inr (by decide), _, rfl, _, _, rfl, rfl, .inr (by decide), _, _, rfl, rfl, _, _, rfl, rfl, .inl ⟨_, rfl, _, _, rfl, rfl, (by show (0 : Int) < 2147483399; decide), ?_⟩⟩
          refine ⟨_, rfl, by decide, by decide, for_range (lo := 0) (n := 12) (fun j σ H' => ∃ (ds2 : List Int) (c2 : Int) (y6 : Option V), σ = [some (.ref a), some (.int 0), some (.int 63), some (.ref D), some (.int (0 + (i : Nat))), some (.int c), y6, some (.int c2)] ∧ Same H H' ∧ H' D = some (.lst (ds2.map V.int)) ∧ ds2.length ≤ 60 * i + j)
            ⟨ds, _, y6, rfl, s1, e1, l1⟩ ?_ ?_⟩
          · rintro j σ H2 hj ⟨ds2, c2, y6, rfl, s2, e2, l2⟩
            refine ⟨_, rfl, _, _, rfl, rfl, .inr (by decide), _, rfl, _, _, rfl, rfl, .inl (by decide), _, _, rfl, rfl, _, _, rfl, rfl, .inl ⟨_, rfl, _, _, rfl, rfl, (by show (0 : Int) < 2147483563; decide), ?_⟩⟩
            refine ⟨_, rfl, .inl ⟨rfl, _, SqL.of e2⟩, _, rfl, _, _, rfl, rfl, ⟨by decide, by decide⟩, .inl ⟨_, rfl, _, _, rfl, rfl, (by show (0 : Int) < 1000; decide), D, _, _, rfl, rfl, e2, ?_, ?_⟩⟩
            · rw [List.length_map]
              exact big (by omega)
            · refine ⟨ds2 ++ [(c2 * 40014 + 5 * (0 + (j : Nat)) + 3) % 2147483563 / 1009 % 1000], _, _, rfl, Same.lst s2 hD, ?_, ?_⟩
              all_goals try dsimp only
              · rw [upd_same, snoc_ints]
              · rw [List.length_append, List.length_singleton]
                omega
          · rintro σ H2 ⟨ds2, c2, y6, rfl, s2, e2, l2⟩
            exact ⟨ds2, _, _, _, _, rfl, s2, e2, by omega⟩
    · rintro σ H1 ⟨ds, y4, y5, y6, y7, rfl, s1, e1, l1⟩
      exact ⟨_, rfl, q H1 D ds s1 hD e1 (by omega)⟩
end
end K1

set_option maxRecDepth 100000
set_option maxHeartbeats 4000000
namespace K1
open PySem PySem.Spec PyProof.Rows L2 GD
/-! ### the box -/
def Bx (b : Addr) (H H' : Hp) : Prop := ∀ c o, c ≠ b → H c = some o → H' c = some o
theorem Bx.refl (b : Addr) (H : Hp) : Bx b H H := fun _ _ _ h => h
theorem Bx.trans {b : Addr} {H H1 H2 : Hp} (x : Bx b H H1) (y : Bx b H1 H2) : Bx b H H2 := fun c o n h => y c o n (x c o n h)
theorem Bx.same {b : Addr} {H H' : Hp} (s : Same H H') : Bx b H H' := fun c o _ h => s c o h
theorem Box.draw {H : Hp} {b d : Addr} {ds : List Int} {n : Nat} (x : Box H b d ds n) : Box (upd H b (.lst [.ref d, .int ((n + 1 : Nat) : Int)])) b d ds (n + 1) :=
  ⟨upd_same, by rw [upd_ne x.ne]; exact x.2.1, x.2.2⟩
theorem Bx.draw {H : Hp} {b : Addr} {o : HO} : Bx b H (upd H b o) := fun c u n h => by rw [upd_ne n]; exact h
theorem Box.new {H : Hp} {b d l : Addr} {ds : List Int} {n : Nat} {o : HO} (x : Box H b d ds n) (h : H l = none) : Box (upd H l o) b d ds n :=
  ⟨by rw [upd_ne (ne_of_none x.1 h)]; exact x.1, by rw [upd_ne (ne_of_none x.2.1 h)]; exact x.2.1, x.2.2⟩
theorem Bx.new {H : Hp} {b l : Addr} {o : HO} (h : H l = none) : Bx b H (upd H l o) := Bx.same (Same.lst (Same.refl H) h)
theorem Bx.free {b c d : Addr} {H H' : Hp} {ds : List Int} {n : Nat} (x : Bx b H H') (y : Box H b d ds n) (y' : Box H' b d ds n ∨ H' b ≠ none) (h : H' c = none) : H c = none := by
  cases e : H c with
  | none => rfl
  | some o =>
    by_cases z : c = b
    · subst z
      rcases y' with y' | y'
      · rw [y'.1] at h
        cases h
      · exact absurd h y'
    · rw [x c o z e] at h
      cases h

/-- draws and new objects -/
structure Bs (b d : Addr) (ds : List Int) (H H' : Hp) (n : Nat) : Prop where
  bx : Bx b H H'
  box : Box H' b d ds n
  free : ∀ c, H' c = none → H c = none
theorem Bs.refl {b d : Addr} {ds : List Int} {H : Hp} {n : Nat} (h : Box H b d ds n) : Bs b d ds H H n := ⟨Bx.refl _ _, h, fun _ z => z⟩
theorem Bs.draw {b d : Addr} {ds : List Int} {H H' : Hp} {n : Nat} (h : Bs b d ds H H' n) : Bs b d ds H (upd H' b (.lst [.ref d, .int ((n + 1 : Nat) : Int)])) (n + 1) :=
  ⟨h.bx.trans Bx.draw, h.box.draw, fun c z => h.free c (by
    by_cases e : c = b
    · rw [e, upd_same] at z
      cases z
    · rw [upd_ne e] at z
      exact z)⟩
theorem Bs.new {b d l : Addr} {ds : List Int} {H H' : Hp} {n : Nat} {o : HO} (h : Bs b d ds H H' n) (nl : H' l = none) : Bs b d ds H (upd H' l o) n :=
  ⟨h.bx.trans (Bx.new nl), h.box.new nl, fun c z => h.free c (by
    by_cases e : c = l
    · rw [e]
      exact nl
    · rw [upd_ne e] at z
      exact z)⟩
theorem Bs.trans {b d : Addr} {ds : List Int} {H H1 H2 : Hp} {n m : Nat} (x : Bs b d ds H H1 n) (y : Bs b d ds H1 H2 m) : Bs b d ds H H2 m :=
  ⟨x.bx.trans y.bx, y.box, fun c z => x.free c (y.free c z)⟩
theorem Bs.nb {b d l : Addr} {ds : List Int} {H H' : Hp} {n : Nat} (h : Bs b d ds H H' n) (nl : H' l = none) : l ≠ b := fun z => by rw [z, h.box.1] at nl; cases nl
theorem idx {m : Nat} {r : Int} (h0 : 0 ≤ r) (h1 : r < (m : Int)) : ∃ j : Nat, r = (j : Int) ∧ j < m := ⟨r.toNat, by omega, by omega⟩
theorem le9 {n : Nat} (h : n ≤ 100) : n ≤ sizeLine := Nat.le_trans h (by decide)
end K1

set_option maxRecDepth 100000
set_option maxHeartbeats 4000000
/-! OutOfRange, made and raised -/
namespace K5
open PySem hiding Tok code
open PySem.Spec PyProof.Rows GD K1 GS
open L2 hiding rest
abbrev cOOR : Stmt := topS 2
abbrev mOInit : Stmt := inClass cOOR 0
structure FO (P : Program) (w : World) (K : PySem.W.Frag) (mg : Str → Option Value) (base : Heap) (CX : CXT) (k : Nat) (x : Str) (ps : List Str) (sp : L2.Sp) (f : Addr) (fd : FuncData) : Prop where
  m : mg x = some (.ref f)
  kp : PySem.W.keepIn K (.ref f) = true
  b : Binds K fd ps []
  ok : FnOk P w K mg base CX k f fd ps sp
structure MO (P : Program) (w : World) (K : PySem.W.Frag) (mg : Str → Option Value) (base : Heap) (CX : CXT) (k : Nat) (C : Addr) (m : Str) (ps : List Str) (sp : L2.Sp) (f : Addr) (fd : FuncData) : Prop where
  mt : Meth K C m f
  bi : Binds K fd ps []
  ok : FnOk P w K mg base CX k f fd ps sp
/-- what the top has written of OutOfRange -/
structure TxO (K : PySem.W.Frag) (mg : Str → Option Value) (D fI : Addr) : Prop where
  g : mg "OutOfRange" = some (.ref D)
  oc : OexC K D
  ini : PySem.W.findIn K (.ref D) "__init__" = some (some (.ref fI))
  tyI : PySem.W.typeIn K (.ref fI) = some (.type "function")
  noName : PySem.W.findIn K (.ref D) "name" = some none
  xf : XfC K D
  eO : PySem.W.exmOne K (.ref D) (.ref D) = some true
theorem szle {n : Nat} (h : n ≤ 5000) : n ≤ sizeLine := Nat.le_trans h (by decide)
theorem szlt {n : Nat} (h : n ≤ 5000) : n < sizeLine := Nat.lt_of_le_of_lt h (by decide)
theorem sfree {H H' : Hp} {p : Addr} (s : Same H H') (n : H' p = none) : H p = none := by
  cases e : H p with
  | none => rfl
  | some o => rw [s p o e] at n; cases n
theorem strans {H H1 H2 : Hp} (a : Same H H1) (b : Same H1 H2) : Same H H2 := fun p o e => b p o (a p o e)
theorem snew {H H1 : Hp} {D : Addr} {o : HO} (s : Same H H1) (n : H1 D = none) : Same H (upd H1 D o) := strans s (Same.lst (Same.refl H1) n)
theorem pe_gstr {X : Cx} {x z : Str} {t : PySem.Tok} {pos : Pos} (hg : Gl X x) (hm : X.mg x = some (.str z t)) (hd : (x == ("__debug__" : Str)) = false := by decide) : PE X (.Name x pos) (tC (.str z)) := pe_glob hg hm ⟨_, rfl⟩ hd
theorem pe_gint {X : Cx} {x : Str} {i : Int} {t : PySem.Tok} {pos : Pos} (hg : Gl X x) (hm : X.mg x = some (.int i t)) (hd : (x == ("__debug__" : Str)) = false := by decide) : PE X (.Name x pos) (tC (.int i)) := pe_glob hg hm ⟨_, rfl⟩ hd
def rLenK (K : PySem.W.Frag) : List V → Hp → VK → Prop := fun xs H Q => ∃ p ys, xs = [.ref p] ∧ (SqL K H p ys ∨ SqT K H p ys) ∧ Q (.int ys.length) H
theorem call_lenK {X : Cx} : CallR X (.builtin "len") (rLenK X.K) := call_len_seq
section
variable {P : Program} {w : World} {K : PySem.W.Frag} {mg : Str → Option Value} {base : Heap} {D fI cc cda : Addr}
/-- an error of that class that names z, ahead of heap H -/
def OErr (E : XK) (D : Addr) (H : Hp) (z : Str) : Prop := ∀ d H', Same H H' → H d = none → H' d = some (.xd [("name", .str z)]) → E (.ref D) (some d) H'
def spOInit (D : Addr) : L2.Sp := fun vs H Q _ => ∃ (a : Addr) (z : Str), vs = [.ref a, .str z] ∧ H a = some (exo a D none) ∧ z.length ≤ 100 ∧
  ∀ dx, H dx = none → dx ≠ a → Q .non (upd (upd H dx (exd dx [("name", .str z)])) a (exo a D (some dx)))
theorem nsOInit : NdefX.NScope ["self", "name", "__class__"] ["self", "name"] ["__class__"] (defScope mOInit) := NdefX.nscope_by (by decide +kernel)
theorem ok_oinit (T : SupK P K mg "__init__" "OutOfRange.__init__" mOInit fI cc cda D) (noName : PySem.W.findIn K (.ref D) "name" = some none) :
    ∃ fd, Binds K fd ["self", "name"] [] ∧ FnOk P w K mg base CX0 1 fI fd ["self", "name"] (spOInit D) := by
  refine ok_super (CX := CX0) (k := 0) (sp := spOInit D) (N := ["self", "name", "__class__"]) T nsOInit rfl (by decide +kernel) rfl rfl (fun _ => rfl) (fun _ _ => rfl) (fun _ => rfl) (fun _ => rfl) (fun kV doc pm an ct => .all fun us hl => match us, hl with | [_, _], _ => rfl) (fun vs H Q E h => ?_) (fun A outer s H vs Q E hr h => ?_)
  · obtain ⟨a, z, rfl, _⟩ := h
    rfl
  · obtain ⟨a, z, rfl, ha, hz, q⟩ := h
    refine ⟨a, _, _, _, rfl, ha, pa_cons (pe_joined (PJ.cons (pe_fmt (pv 1)) (PJ.cons pe_str PJ.nil))) pa_nil, pss_one (ps_ost (pv 0) (pv 1)), ?_⟩
    refine ⟨_, rfl, .inl ⟨_, rfl, szle (by omega), _, rfl, ?_, _, rfl, ?_, ?_⟩⟩
    · rw [← S_of z, show Str.empty = S [] from rfl, S_app, S_len]
      have : z.cps.toList.length = z.length := by rw [← S_len, S_of]
      exact szle (by rw [List.nil_append]; omega)
    · rw [← S_of z, show Str.empty = S [] from rfl, S_app, show (Str.ofString " is out of range") = S (Str.ofString " is out of range").cps.toList from (S_of _).symm, S_app, S_len, List.length_append, List.nil_append]
      have : z.cps.toList.length = z.length := by rw [← S_len, S_of]
      have e : (Str.ofString " is out of range").cps.toList.length = 16 := by decide +kernel
      exact szle (by omega)
    refine ⟨(by show 1 ≤ 1000; decide), ha, ?_⟩
    exact ⟨_, rfl, _, rfl, a, D, rfl, T.cls, noName, .inl ⟨ha, q⟩⟩
end
end K5

set_option maxRecDepth 100000
set_option maxHeartbeats 4000000
/-! is_name, is_value -/
namespace K1
open PySem PySem.Spec PyProof.Rows L2 GD
abbrev sIsName : Stmt := topS 11
abbrev sIsValue : Stmt := topS 12
/-- the signs of the package -/
def CHS : Str := " !\"#$&'()*+,-./0123456789:;<=>?@ABCDEFGHIJKLMNOPQRSTUVWXYZ[\\]^_`abcdefghijklmnopqrstuvwxyz{|}~"
def isCh (c : Nat) : Bool := decide (32 ≤ c ∧ c ≤ 126 ∧ c ≠ 37)
theorem chs_le : ∀ x ∈ CHS.cps.toList, x ≤ 126 := by decide +kernel
theorem chs_tab : ∀ c ∈ List.range 127, decide (c ∈ CHS.cps.toList) = isCh c := by decide +kernel
theorem chs_eq (c : Nat) : decide (c ∈ CHS.cps.toList) = isCh c := by
  by_cases h : c < 127
  · exact chs_tab c (List.mem_range.mpr h)
  · rw [decide_eq_false fun z => h (Nat.lt_succ_of_le (chs_le c z))]
    exact (decide_eq_false fun z => h (by omega)).symm
/-- a character that may stand in a string -/
def mayC (c : Nat) : Bool := decide (32 ≤ c ∧ c ≤ 126 ∧ c ≠ 37 ∧ c ≠ 34 ∧ c ≠ 124)
theorem mayC_eq (c : Nat) : mayC c = (isCh c && !(decide (c = 34) || decide (c = 124))) := by
  unfold mayC isCh
  rw [Bool.eq_iff_iff]
  simp only [Bool.and_eq_true, Bool.not_eq_true', Bool.or_eq_false_iff, decide_eq_true_eq, decide_eq_false_iff_not]
  constructor
  · intro h
    exact ⟨⟨h.1, h.2.1, h.2.2.1⟩, h.2.2.2.1, h.2.2.2.2⟩
  · intro h
    exact ⟨h.1.1, h.1.2.1, h.1.2.2, h.2.1, h.2.2⟩
/-- the element of is_value's generator -/
theorem elt_val {X : Cx} {scope : Scope} {tz : PySem.Tok} {j1 j2 j3 : Nat} {p0 p1 p2 p3 p4 p5 p6 p7 p8 : Pos} (hgl : X.env.globals = mainGlobals) (hmod : L2.Mod X.K X.mg X.base) (hk : scope.kind = .function)
    (hl : scope.names.lookup ("character" : Str) = some .local) (hn : scope.names.lookup ("CHARACTERS" : Str) = some .globalImplicit) (hm : X.mg "CHARACTERS" = some (.str CHS tz)) :
    EltD X scope "character" (.BoolOp .And [.Compare (.Name "character" p1) [.In] [.Name "CHARACTERS" p2] p3, .Compare (.Name "character" p4) [.NotIn] [.Tuple [.Constant (.str "\"") j1 p5, .Constant (.str "|") j2 p6] j3 p7] p8] p0) mayC := by
  intro cenv A' E' c t s₂ m₂ hs hg hA hD hU hb hns hx
  have k1 : cenv.scope.kind = .function := by rw [hs]; exact hk
  have l1 : cenv.scope.names.lookup ("character" : Str) = some .local := by rw [hs]; exact hl
  refine BoolOp_and (wpAny_Compare1 ?_)
  refine wpAny_Name (wpAny_loadName_local k1 l1 hns hx ?_) (by decide)
  refine Calls.Name_function_global k1 (show cenv.scope.names.lookup _ = some .globalImplicit by rw [hs]; exact hn) (Calls.loadGlobal_global (by rw [hg, hgl]; exact hmod.glob.keeps hb) hm ?_) (by decide)
  refine in_str ?_
  rw [PySem.StrLaws.found_one CHS c, chs_eq c]
  refine wpAny_truthy_bool ?_
  by_cases c1 : isCh c = true
  case neg =>
    have e1 : isCh c = false := by
      cases h : isCh c
      · rfl
      · exact absurd h c1
    rw [e1]
    refine ite_ff ⟨?_, GxR.keeps_refl _⟩
    rw [mayC_eq, e1, Bool.false_and]
  rw [c1]
  refine ite_tt (BoolOp_one (wpAny_Compare1 ?_))
  refine wpAny_Name (wpAny_loadName_local k1 l1 hns hx ?_) (by decide)
  refine wpAny_Tuple_spliced ?_
  show wpAny _ _ (spliced ((false, eval _ cenv) :: backTo _ (starEach [_] cenv))) _ _ _
  refine Calls.spliced_cons (Calls.Constant_str ?_)
  show wpAny _ _ (spliced ((false, eval _ cenv) :: backTo _ (starEach [] cenv))) _ _ _
  refine Calls.spliced_cons (Calls.Constant_str ?_)
  refine Calls.spliced_nil ⟨by show 2 ≤ sizeLine; decide, ?_⟩
  refine SeqAt.notIn_tupleAt (eqU (.str ⟨#[c]⟩)) ⟨_, Heap.get?_push_size _ rfl, rfl, _, rfl⟩ (fun y hy => ?_) ?_
  · have z := List.mem_toArray.mp hy
    rcases List.mem_cons.mp z with rfl | z
    · exact SeqAt.EqAt.str_str _ _ _ _
    · rcases List.mem_cons.mp z with rfl | z
      · exact SeqAt.EqAt.str_str _ _ _ _
      · cases z
  · have q1 : ∀ d : Nat, eqV (.str ⟨#[d]⟩) (.str ⟨#[c]⟩) = decide (c = d) := fun d => by
      show ((⟨#[d]⟩ : Str) == (⟨#[c]⟩ : Str)) = _
      by_cases h : c = d
      · subst h
        rw [decide_eq_true rfl]
        exact beq_self_eq_true _
      · rw [decide_eq_false h]
        refine beq_eq_false_iff_ne.mpr fun z => h ?_
        have z1 : #[d] = #[c] := congrArg Str.cps z
        have z2 : [d] = [c] := congrArg Array.toList z1
        exact (List.cons.inj z2).1.symm
    refine ⟨congrArg Value.bool ?_, ⟨_, _, rfl, fun b o e => Heap.get?_push_of_some _ e⟩⟩
    show (!([Value.str (Str.ofString "\"") _, Value.str (Str.ofString "|") _].toArray.any (eqU (.str ⟨#[c]⟩)))) = mayC c
    rw [show ∀ l : List Value, l.toArray.any (eqU (.str ⟨#[c]⟩)) = l.any (eqU (.str ⟨#[c]⟩)) from fun l => by simp]
    rw [List.any_cons, List.any_cons, List.any_nil, Bool.or_false]
    show (!(eqV (.str ⟨#[34]⟩) (.str ⟨#[c]⟩) || eqV (.str ⟨#[124]⟩) (.str ⟨#[c]⟩))) = mayC c
    rw [q1, q1, mayC_eq, c1, Bool.true_and]
theorem smallL {n : Nat} (h : n ≤ 5000) : n ≤ sizeLine := Nat.le_trans h (by decide)
def kw13 : List Str := ["import", "export", "let", "keep", "fn", "do", "hold", "if", "then", "else", "set", "from", "as"]
/-- what the top has written, but for the defs -/
structure Txt61 (K : PySem.W.Frag) (mg : Str → Option Value) : Prop where
  len : mg "len" = none
  bint : mg "int" = none
  bstr : mg "str" = none
  bbool : mg "bool" = none
  isinstance : mg "isinstance" = none
  all : mg "all" = none
  NAME_MOST : ∃ t, mg "NAME_MOST" = some (.int 6 t)
  NUMBER_MOST : ∃ t, mg "NUMBER_MOST" = some (.int 99999 t)
  STRING_MOST : ∃ t, mg "STRING_MOST" = some (.int 20 t)
  CHARACTERS : ∃ t, mg "CHARACTERS" = some (.str CHS t)
  LETTERS : ∃ t, mg "LETTERS" = some (.str "abcdefghijklmnopqrstuvwxyz" t)
  RESERVED : ∃ a, mg "RESERVED" = some (.ref a) ∧ ∀ H, SqT K H a (kw13.map V.str)
theorem pe_gstr {X : Cx} {x z : Str} {t : PySem.Tok} {pos : Pos} (hg : Gl X x) (hm : X.mg x = some (.str z t)) (hd : (x == ("__debug__" : Str)) = false := by decide) : PE X (.Name x pos) (tC (.str z)) := pe_glob hg hm ⟨_, rfl⟩ hd
theorem pe_gint {X : Cx} {x : Str} {i : Int} {t : PySem.Tok} {pos : Pos} (hg : Gl X x) (hm : X.mg x = some (.int i t)) (hd : (x == ("__debug__" : Str)) = false := by decide) : PE X (.Name x pos) (tC (.int i)) := pe_glob hg hm ⟨_, rfl⟩ hd
/-- all is kept but the table at P, which may have grown -/
def Kp (P : Addr) (H H' : Hp) : Prop := GxR.TabG H' P ∧ ∀ b o, b ≠ P → H b = some o → H' b = some o
theorem Same.kp {P : Addr} {H H' : Hp} (s : Same H H') (t : GxR.TabG H P) : Kp P H H' := by
  obtain ⟨ps, e, r⟩ := t
  exact ⟨⟨ps, s _ _ e, r⟩, fun b o _ h => s b o h⟩
theorem Kp.refl {P : Addr} {H : Hp} (t : GxR.TabG H P) : Kp P H H := Same.kp (Same.refl H) t
theorem Kp.trans {P : Addr} {H H1 H2 : Hp} (a : Kp P H H1) (b : Kp P H1 H2) : Kp P H H2 := ⟨b.1, fun c o n h => b.2 c o n (a.2 c o n h)⟩
theorem Kp.of {P : Addr} {H H' : Hp} (t : GxR.Tabbed P H H') : Kp P H H' := ⟨t.1, fun b o n h => by rw [t.2 b n]; exact h⟩
section
variable {P : Program} {w : World} {K : PySem.W.Frag} {mg : Str → Option Value} {base : Heap}

/-- what the generator expressions' scopes say -/
def genScope (e : Expr) : Scope := match e with
  | .Call _ [.GeneratorExp _ _ sc _] _ _ => sc
  | _ => { kind := .function, names := [], isGenerator := false, isCoroutine := false }
def retE (s : Stmt) : Expr := match s with
  | .Return (some e) _ => e
  | _ => .Constant .none 0 ⟨0, 0, 0, 0⟩
def gsVal : Scope := genScope (retE ((defBody sIsValue).getD 3 (.Pass ⟨0, 0, 0, 0⟩)))
def gsNam : Scope := genScope (retE ((defBody sIsName).getD 1 (.Pass ⟨0, 0, 0, 0⟩)))
theorem gsVal_cell : ∀ y ∈ gsVal.names, y.2 ≠ .cell := by decide +kernel
theorem gsVal_free : ∀ y ∈ gsVal.names, y.2 ≠ .free := by decide +kernel
theorem gsNam_cell : ∀ y ∈ gsNam.names, y.2 ≠ .cell := by decide +kernel
theorem gsNam_free : ∀ y ∈ gsNam.names, y.2 ≠ .free := by decide +kernel

def strV (z : Str) : Bool := decide (z.length ≤ 20) && z.cps.toList.all mayC
def spValue (PV : Addr) : Sp := fun vs H Q _ => (∃ z : Str, vs = [.str z] ∧ z.length ≤ 5000 ∧ GxR.TabG H PV ∧ ∀ H', Kp PV H H' → Q (.bl (strV z)) H') ∨
  ∃ i : Int, vs = [.int i] ∧ Q (.bl (decide (-99999 ≤ i ∧ i ≤ 99999))) H
theorem scVal : FnScope ["value"] ["value"] (defScope sIsValue) := ⟨rfl, rfl, rfl, by decide +kernel, rfl, by decide +kernel, by decide +kernel⟩
theorem ok_value {f cV PV : Addr} {oc : Value} {od an : Option Addr} {osl : Array (Option Value)} {kV doc pm cdv ct : Value}
    (lk : K.lookup f = some ⟨oc, od, .func (PySem.W.fnOf "is_value" "is_value" (defArgs sIsValue) (defBody sIsValue) (defScope sIsValue) .none kV doc pm an cdv ct), osl⟩)
    (hcd : PySem.W.codeIn K cdv "is_value" = true) (ecd : cdv = .ref cV) (TB : GxR.TabB base mg cV PV) (T : Txt61 K mg) :
    FnOk P w K mg base CX0 2 f (PySem.W.fnOf "is_value" "is_value" (defArgs sIsValue) (defBody sIsValue) (defScope sIsValue) .none kV doc pm an cdv ct) ["value"] (spValue PV) := by
  have sc := scVal
  obtain ⟨t1, g1⟩ := T.CHARACTERS
  obtain ⟨t4, g4⟩ := T.NUMBER_MOST
  obtain ⟨t5, g5⟩ := T.STRING_MOST
  refine okC lk hcd sc (fun vs H Q E h => ?_) (fun A outer s H vs Q E hr h => ?_)
  · rcases h with ⟨z, rfl, _⟩ | ⟨i, rfl, _⟩ <;> rfl
  · have hdep : (A.deeper (envOfC "is_value" (defScope sIsValue) s.heap.objs.size f cdv)).depth + 1 < recursionLimit := by
      have := hr.dp
      omega
    refine ⟨_, (pss_cons (ps_if (pt_val (pe_callB call_isi (by rfl) T.isinstance (by decide +kernel) (pa_cons (pv 0) (pa_cons (pe_bltn (v := .ty "bool") (by rfl) T.bbool (by decide +kernel) rfl) pa_nil))))
(pss_one (ps_ret pe_bl)) pss_nil)
(pss_cons (ps_if (pt_val (pe_callB call_isi (by rfl) T.isinstance (by decide +kernel) (pa_cons (pv 0) (pa_cons (pe_bltn (v := .ty "int") (by rfl) T.bint (by decide +kernel) rfl) pa_nil))))
(pss_one (ps_ret (pe_chain op_le op_le (pe_un un_neg (pe_gint rfl g4)) (pv 0) (pe_gint rfl g4)))) pss_nil)
(pss_cons (ps_if (PW.pt (pw_or (pt_not (pt_val (pe_callB call_isi (by rfl) T.isinstance (by decide +kernel) (pa_cons (pv 0) (pa_cons (pe_bltn (v := .ty "str") (by rfl) T.bstr (by decide +kernel) rfl) pa_nil))))) (pw_or1 (pt_cmpR op_gt (pe_callB call_len_str (by rfl) T.len (by decide +kernel) (pa_cons (pv 0) pa_nil)) (pe_gint rfl g5) (nomark _)))))
(pss_one (ps_ret pe_bl)) pss_nil)
(pss_one (ps_ret (pe_allD (scope := gsVal) hr rfl T.all TB (by rw [← ecd]; rfl) ⟨rfl, rfl, gsVal_cell, rfl, rfl, fun y hy e => absurd e (gsVal_free y hy)⟩ (pv 0)
  (fun hB => elt_val (X := (cxOf CX0 P w K mg base _ _ _ f cdv A outer s H E).nox) rfl hB rfl rfl rfl g1) (fun _ => rfl))))))), ?_⟩
    rcases h with ⟨z, rfl, hz, tb, q⟩ | ⟨i, rfl, q⟩
    · refine ⟨_, rfl, _, _, _, _, false, rfl, .ty _, .base (.str _), kit_ty (by decide +kernel), _, rfl, iteF ?_⟩
      refine ⟨_, rfl, _, _, _, _, false, rfl, .ty _, .base (.str _), kit_ty (by decide +kernel), _, rfl, iteF ?_⟩
      refine ⟨_, rfl, _, _, _, _, true, rfl, .ty _, .base (.str _), kit_ty (by decide +kernel), _, rfl, iteF ?_⟩
      refine ⟨_, rfl, _, rfl, smallL hz, _, _, rfl, rfl, _, rfl, ite2 (fun h => ?_) (fun h => ?_)⟩
      · have h := of_decide_eq_true h
        have e : strV z = false := by
          unfold strV
          rw [decide_eq_false (by omega), Bool.false_and]
        have := q H (Kp.refl tb)
        rw [e] at this
        exact this
      · have h : ¬ ((20 : Int) < z.length) := fun y => h (decide_eq_true y)
        have e : strV z = z.cps.toList.all mayC := by
          unfold strV
          rw [decide_eq_true (by omega), Bool.true_and]
        refine ⟨_, rfl, z, rfl, tb, fun H2 t => ?_⟩
        have := q H2 (Kp.of t)
        rw [e] at this
        exact this
    · refine ⟨_, rfl, _, _, _, _, false, rfl, .ty _, .base (.int _), kit_ty (by decide +kernel), _, rfl, iteF ?_⟩
      refine ⟨_, rfl, _, _, _, _, true, rfl, .ty _, .base (.int _), kit_ty (by decide +kernel), _, rfl, iteT ?_⟩
      refine ⟨_, rfl, _, rfl, _, _, rfl, rfl, _, rfl, ?_⟩
      refine ite2 (fun h => ?_) (fun h => ?_)
      · have h : (-99999 : Int) ≤ i := of_decide_eq_true h
        refine ⟨_, _, rfl, rfl, ?_⟩
        have e : decide (-99999 ≤ i ∧ i ≤ 99999) = decide (i ≤ 99999) := by
          by_cases h2 : i ≤ 99999
          · rw [decide_eq_true h2, decide_eq_true ⟨h, h2⟩]
          · rw [decide_eq_false h2, decide_eq_false fun z => h2 z.2]
        rw [e] at q
        exact q
      · have h : ¬ (-99999 : Int) ≤ i := fun z => h (decide_eq_true z)
        have e : decide (-99999 ≤ i ∧ i ≤ 99999) = false := decide_eq_false fun z => h z.1
        rw [e] at q
        exact q

/-! ### is_name -/
def nameB (z : Str) : Bool := decide (1 ≤ z.length ∧ z.length ≤ 6) && !(inV (.str z) (kw13.map V.str)) && z.cps.toList.all fun c => decide (c ∈ LET)
def spName (PN : Addr) : Sp := fun vs H Q _ => ∃ z : Str, vs = [.str z] ∧ z.length ≤ 5000 ∧ GxR.TabG H PN ∧ ∀ H', Kp PN H H' → Q (.bl (nameB z)) H'
theorem scNam : FnScope ["text"] ["text"] (defScope sIsName) := ⟨rfl, rfl, rfl, by decide +kernel, rfl, by decide +kernel, by decide +kernel⟩
theorem ok_name {f cN PN : Addr} {oc : Value} {od an : Option Addr} {osl : Array (Option Value)} {kV doc pm cdv ct : Value}
    (lk : K.lookup f = some ⟨oc, od, .func (PySem.W.fnOf "is_name" "is_name" (defArgs sIsName) (defBody sIsName) (defScope sIsName) .none kV doc pm an cdv ct), osl⟩)
    (hcd : PySem.W.codeIn K cdv "is_name" = true) (ecd : cdv = .ref cN) (TB : GxR.TabB base mg cN PN) (T : Txt61 K mg) :
    FnOk P w K mg base CX0 1 f (PySem.W.fnOf "is_name" "is_name" (defArgs sIsName) (defBody sIsName) (defScope sIsName) .none kV doc pm an cdv ct) ["text"] (spName PN) := by
  have sc := scNam
  obtain ⟨t1, g1⟩ := T.LETTERS
  obtain ⟨t4, g4⟩ := T.NAME_MOST
  obtain ⟨ra, gr, hres⟩ := T.RESERVED
  refine okC lk hcd sc (fun vs H Q E h => ?_) (fun A outer s H vs Q E hr h => ?_)
  · obtain ⟨z, rfl, _⟩ := h
    rfl
  · obtain ⟨z, rfl, hz, tb, q⟩ := h
    refine ⟨_, (pss_cons (ps_if (PW.pt (pw_or (pt_not (pt_chain op_le op_le pe_int (pe_callB call_len_str (by rfl) T.len (by decide +kernel) (pa_cons (pv 0) pa_nil)) (pe_gint rfl g4))) (pw_or1 (pt_cmpR op_in_seq (pv 0) (pe_glob (v := .ref ra) rfl gr rfl) rfl))))
(pss_one (ps_ret pe_bl)) pss_nil)
(pss_one (ps_ret (pe_allD (scope := gsNam) hr rfl T.all TB (by rw [← ecd]; rfl) ⟨rfl, rfl, gsNam_cell, rfl, rfl, fun y hy e => absurd e (gsNam_free y hy)⟩ (pv 0)
  (fun hB => elt_inSigns (X := (cxOf CX0 P w K mg base _ _ _ f cdv A outer s H E).nox) rfl hB rfl rfl rfl g1) (fun _ => rfl))))), ?_⟩
    have bad : nameB z = false → Q (.bl false) H := fun e => by
      have := q H (Kp.refl tb)
      rw [e] at this
      exact this
    have flatR : (kw13.map V.str).all flatV = true := rfl
    refine ⟨_, rfl, _, rfl, smallL hz, _, _, rfl, rfl, _, rfl, ?_⟩
    refine ite2 (fun h => ?_) (fun h => ?_)
    · have h : (1 : Int) ≤ z.length := of_decide_eq_true h
      refine ⟨_, _, rfl, rfl, _, rfl, ?_⟩
      by_cases h2 : ((z.length : Nat) : Int) ≤ 6
      · refine iteNS h2 ?_
        refine ⟨_, rfl, ra, _, rfl, .inr (hres _), rfl, flatR, _, rfl, ite2 (fun h3 => ?_) (fun h3 => ?_)⟩
        · refine bad ?_
          unfold nameB
          have h3 : inV (.str z) (kw13.map V.str) = true := h3
          rw [h3]
          simp
        · have h3 : inV (.str z) (kw13.map V.str) = false := by
            cases e : inV (.str z) (kw13.map V.str) with
            | false => rfl
            | true => exact absurd e h3
          have e : nameB z = z.cps.toList.all fun c => decide (c ∈ LET) := by
            unfold nameB
            rw [h3, decide_eq_true ⟨by omega, by omega⟩]
            rfl
          refine ⟨_, rfl, z, rfl, tb, fun H2 t => ?_⟩
          have := q H2 (Kp.of t)
          rw [e] at this
          exact this
      · show if (!decide (((z.length : Nat) : Int) ≤ 6)) = true then _ else _
        rw [decide_eq_false h2]
        refine iteT (bad ?_)
        unfold nameB
        rw [decide_eq_false (fun z => h2 (by omega))]
        rfl
    · have h : ¬ (1 : Int) ≤ z.length := fun z => h (decide_eq_true z)
      refine ⟨_, rfl, iteT (bad ?_)⟩
      unfold nameB
      rw [decide_eq_false (fun z => h (by omega))]
      rfl
end
end K1

set_option maxRecDepth 100000
set_option maxHeartbeats 4000000
/-! arguments, calls: what is allowed -/
namespace K5
open PySem hiding Tok code
open PySem.Spec PyProof.Rows GD K1 GS
open L2 hiding rest
abbrev sAreA : Stmt := topS 15
abbrev sChkA : Stmt := topS 16
abbrev sChk : Stmt := topS 17
abbrev cHold : Stmt := topS 19
inductive AV | i (n : Int) | s (z : Str)
def aV : AV → V
  | .i n => .int n
  | .s z => .str z
def aB : AV → Bool
  | .i n => decide (-99999 ≤ n ∧ n ≤ 99999)
  | .s z => strV z
def aS : AV → Prop
  | .i _ => True
  | .s z => z.length ≤ 5000
def argsB (ad : List AV) : Bool := decide (ad.length ≤ 3) && ad.all aB
def chk (m n : Str) (ad : List AV) : Option Str := if nameB m = false then some "module" else if nameB n = false then some "name" else if argsB ad = false then some "arguments" else none
/-- both tables are there -/
structure T2 (PN PV : Addr) (H : Hp) : Prop where
  n : GxR.TabG H PN
  v : GxR.TabG H PV
/-- all but the tables stays -/
structure ST (PN PV : Addr) (H H' : Hp) : Prop where
  t : T2 PN PV H'
  k : ∀ q o, (∀ ps, o ≠ .tbl ps) → H q = some o → H' q = some o
section
variable {PN PV : Addr} {H H1 H2 : Hp}
theorem ST.trans (a : ST PN PV H H1) (b : ST PN PV H1 H2) : ST PN PV H H2 := ⟨b.t, fun q o n e => b.k q o n (a.k q o n e)⟩
theorem tab_same {P : Addr} (t : GxR.TabG H P) (s : Same H H1) : GxR.TabG H1 P := by
  obtain ⟨ps, e, r⟩ := t
  exact ⟨ps, s _ _ e, r⟩
theorem T2.st (t : T2 PN PV H) (s : Same H H1) : ST PN PV H H1 := ⟨⟨tab_same t.n s, tab_same t.v s⟩, fun q o _ e => s q o e⟩
theorem tab_wr {P l : Addr} {o u : HO} (t : GxR.TabG H P) (e : H l = some u) (n : ∀ ps, u ≠ .tbl ps) : GxR.TabG (upd H l o) P := by
  obtain ⟨ps, e1, r⟩ := t
  refine ⟨ps, ?_, r⟩
  rw [upd_ne (fun z => by rw [z, e] at e1; injection e1 with e1; exact n _ e1)]
  exact e1
theorem ST.wr {l : Addr} {xs : List V} {o : HO} (s : ST PN PV H H1) (nl : H l = none) (e : H1 l = some (.lst xs)) : ST PN PV H (upd H1 l o) :=
  ⟨⟨tab_wr s.t.n e (fun _ z => by cases z), tab_wr s.t.v e (fun _ z => by cases z)⟩, fun q u n e1 => by
    rw [upd_ne (fun z => by rw [z, nl] at e1; cases e1)]
    exact s.k q u n e1⟩
theorem T2.kpV (t : T2 PN PV H) (ne : PN ≠ PV) (k : Kp PV H H1) : ST PN PV H H1 := by
  obtain ⟨ps, e, r⟩ := t.n
  obtain ⟨ps', e', r'⟩ := t.v
  exact ⟨⟨⟨ps, k.2 _ _ ne e, r⟩, k.1⟩, fun q o n e1 => k.2 q o (fun z => by
    rw [z, e'] at e1
    injection e1 with e1
    exact n _ e1.symm) e1⟩
theorem T2.kpN (t : T2 PN PV H) (ne : PN ≠ PV) (k : Kp PN H H1) : ST PN PV H H1 := by
  obtain ⟨ps, e, r⟩ := t.n
  obtain ⟨ps', e', r'⟩ := t.v
  exact ⟨⟨k.1, ⟨ps', k.2 _ _ ne.symm e', r'⟩⟩, fun q o n e1 => k.2 q o (fun z => by
    rw [z, e] at e1
    injection e1 with e1
    exact n _ e1.symm) e1⟩
end
section
variable {P : Program} {w : World} {K : PySem.W.Frag} {mg : Str → Option Value} {base : Heap} {D fI PN PV : Addr}
theorem passE {N : List Str} {q : Str} {sc : Scope} {f : Addr} {cdv : Value} {A : Around} {outer : List Env} {s : Shared} {H : Hp} {E : XK} :
    Passes (L2.CX P w) (cxOf (L2.CX P w) P w K mg base N q sc f cdv A outer s H E) E := fun pins σ H' s1 e s2 I c =>
  passAt (X := cxOf (L2.CX P w) P w K mg base N q sc f cdv A outer s H E) (W := fun cls d _ H => E cls d H) (takes_of rfl rfl rfl rfl) σ pins H' s1 e s2 I c
theorem oor_k {E : XK} {H H1 : Hp} {z : Str} (s : Same H H1) (hz : z.length ≤ 100) (h : OErr E D H z) :
    ([V.str z]).length ≤ 1000 ∧ ∀ a, H1 a = none → spOInit D (.ref a :: ([V.str z] ++ [])) (upd H1 a (exo a D none))
      (fun v H2 => v = .non ∧ ∃ (d : Addr) (fs : List (Str × V)), H2 a = some (exo a D (some d)) ∧ H2 d = some (exd d fs) ∧ H1 d = none ∧ E (.ref D) (some d) (upd (del H2 a) d (.xd fs))) (fun _ _ _ => False) := by
  refine ⟨by show 1 ≤ 1000; decide, fun a na => ⟨a, z, rfl, upd_same, hz, fun dx ndx nea => ⟨rfl, dx, [(Str.ofString "name", V.str z)], upd_same, ?_, ?_, ?_⟩⟩⟩
  · rw [upd_ne nea, upd_same]
  · rw [upd_ne nea] at ndx
    exact ndx
  · rw [upd_ne nea] at ndx
    refine h dx _ (fun q o e => ?_) (sfree s ndx) upd_same
    have e1 := s q o e
    have n1 : q ≠ dx := fun z => by rw [z, ndx] at e1; cases e1
    have n2 : q ≠ a := fun z => by rw [z, na] at e1; cases e1
    rw [upd_ne n1]
    unfold del
    rw [if_neg n2, upd_ne n2, upd_ne n1, upd_ne n2]
    exact e1
def spAreA (PN PV : Addr) : L2.Sp := fun vs H Q _ => ∃ (ar : Addr) (ad : List AV), vs = [.ref ar] ∧ H ar = some (.tup (ad.map aV)) ∧ T2 PN PV H ∧ (∀ x ∈ ad, aS x) ∧ ∀ H', ST PN PV H H' → Q (.bl (argsB ad)) H'
theorem scAreA : FnScope ["values", "value"] ["values"] (defScope sAreA) := ⟨rfl, rfl, rfl, by decide +kernel, rfl, by decide +kernel, by decide +kernel⟩
theorem ok_areA {f f1 : Addr} {fd fd1 : FuncData} (F : Fun K "are_arguments" "are_arguments" sAreA f fd) (T : Txt K mg) (T3 : Txt61 K mg) (TA : ∃ t, mg "ARGUMENTS_MOST" = some (.int 3 t)) (ne : PN ≠ PV)
    (FV : FO P w K mg base CX0 2 "is_value" ["value"] (spValue PV) f1 fd1) : FnOk P w K mg base CX0 3 f fd ["values"] (spAreA PN PV) := by
  have sc := scAreA
  obtain ⟨t1, gAM⟩ := TA
  refine F.ok sc (fun vs H Q E h => ?_) (fun cdv A outer s H vs Q E hr h => ?_)
  · obtain ⟨ar, ad, rfl, _⟩ := h
    rfl
  · obtain ⟨ar, ad, rfl, ha, t2, sm, q⟩ := h
    refine ⟨_, (pss_one (ps_ret (pe_and (pe_cmpR op_le (pe_callB call_len_seq (by rfl) T.len (by decide +kernel) (pa_cons (pv 0) pa_nil)) (pe_gint rfl gAM) (nomark _)) (pe_one (pe_callB (cr_all rfl) (by rfl) T3.all (by decide +kernel) (pa_cons (pe_lc (own := [("value", 1)]) rfl sc.nd (pi_tup (pv 0)) (blkOk_by (own := [("value", 1)]) (N := ["values", "value"]) (sc := defScope sAreA) (by decide +kernel)) (fun _ _ _ _ _ => (pg_name (i := 1) sc.nd rfl (Or.inl rfl))) (fun _ _ _ _ _ => pts_nil) (fun _ _ _ _ _ => (pe_call FV.ok hr (by rfl) FV.m FV.kp FV.b .nil pass0 (pa_cons (pv 1) pa_nil)))) pa_nil)))))), ?_⟩
    refine ⟨_, rfl, ar, _, rfl, .inr (SqT.of ha), _, _, rfl, rfl, _, rfl, ?_⟩
    rw [List.length_map]
    cases hl : decide (((ad.length : Nat) : Int) ≤ 3) with
    | false =>
      refine iteF ?_
      have e : argsB ad = false := by
        unfold argsB
        rw [decide_eq_false (by have := of_decide_eq_false hl; omega)]
        rfl
      rw [← e]
      exact q _ (t2.st (Same.refl H))
    | true =>
      have l3 : ad.length ≤ 3 := by have := of_decide_eq_true hl; omega
      refine iteT ?_
      refine ⟨_, rfl, ar, rfl, ⟨_, SqT.of ha⟩, fun l nl => ?_⟩
      refine lc_it (walk_tup (K := K) (a := ar) (xs := ad.map aV)) (fun j H' => ST PN PV H H' ∧ H' l = some (.lst (((ad.take j).map aB).map V.bl))) ⟨t2.st (Same.lst (Same.refl _) nl), upd_same⟩ (fun i H' _ pv => SqT.of (pv.1.k _ _ (fun _ z => by cases z) ha)) (fun j x H2 H3 hj pv y => ?_) (fun H2 pv => ?_)
      · obtain ⟨rfl, hx⟩ := y
        rw [List.getElem?_map, Option.map_eq_some_iff] at hx
        obtain ⟨a, hi, rfl⟩ := hx
        obtain ⟨s2, el⟩ := pv
        have fin : ∀ H4, ST PN PV H3 H4 → ∃ acc : List V, H4 l = some (.lst acc) ∧ acc.length < sizeLine ∧ ST PN PV H (upd H4 l (.lst (acc ++ [V.bl (aB a)]))) ∧ (upd H4 l (.lst (acc ++ [V.bl (aB a)]))) l = some (.lst (((ad.take (j + 1)).map aB).map V.bl)) := fun H4 s4 => by
          have e4 := s4.k _ _ (fun _ z => by cases z) el
          refine ⟨_, e4, ?_, (s2.trans s4).wr nl e4, ?_⟩
          · rw [List.length_map, List.length_map, List.length_take]
            exact szlt (by omega)
          · rw [upd_same, List.take_add_one, hi, List.map_append, List.map_append]
            rfl
        refine ⟨rfl, _, rfl, ?_⟩
        have sa := sm a (List.mem_of_getElem? hi)
        cases a with
        | s z => exact .inl ⟨z, rfl, sa, s2.t.v, fun H4 kp => fin H4 (s2.t.kpV ne kp)⟩
        | i n => exact .inr ⟨n, rfl, fin H3 (s2.t.st (Same.refl _))⟩
      · have lv : (ad.map aV).length = ad.length := List.length_map _
        rw [lv, List.take_length] at pv
        refine ⟨l, ad.map aB, rfl, SqL.of pv.2, ?_⟩
        have e : argsB ad = (ad.map aB).all id := by
          unfold argsB
          rw [decide_eq_true l3, Bool.true_and, List.all_map]
          rfl
        rw [← e]
        exact q _ pv.1
def spChkA (PN PV D : Addr) : L2.Sp := fun vs H Q E => ∃ (ar : Addr) (ad : List AV), vs = [.ref ar] ∧ H ar = some (.tup (ad.map aV)) ∧ T2 PN PV H ∧ (∀ x ∈ ad, aS x) ∧ (argsB ad = true → ∀ H', ST PN PV H H' → Q .non H') ∧ (argsB ad = false → ∀ H', ST PN PV H H' → OErr E D H' "arguments")
theorem scChkA : FnScope ["values"] ["values"] (defScope sChkA) := ⟨rfl, rfl, rfl, by decide +kernel, rfl, by decide +kernel, by decide +kernel⟩
theorem ok_chkA {f f1 : Addr} {fd fd1 fdI : FuncData} (F : Fun K "check_arguments" "check_arguments" sChkA f fd) (TO : TxO K mg D fI)
    (bI : Binds K fdI ["self", "name"] []) (FI : FnOk P w K mg base CX0 1 fI fdI ["self", "name"] (spOInit D))
    (FA : FO P w K mg base CX0 3 "are_arguments" ["values"] (spAreA PN PV) f1 fd1) : FnOk P w K mg base (L2.CX P w) 4 f fd ["values"] (spChkA PN PV D) := by
  have sc := scChkA
  refine F.okX sc (fun vs H Q E h => ?_) (fun cdv A outer s H vs Q E hr h => ?_)
  · obtain ⟨ar, ad, rfl, _⟩ := h
    rfl
  · obtain ⟨ar, ad, rfl, ha, t2, sm, q1, q2⟩ := h
    have hr1 : Room 2 _ := hr.mono (by decide)
    refine ⟨_, (pss_one (ps_if (pt_not (pt_val (pe_call FA.ok hr (by rfl) FA.m FA.kp FA.b .nil pass0 (pa_cons (pv 0) pa_nil))))
      (pss_one (ps_raise rfl (takes_of rfl rfl rfl rfl) (pmk_oex TO.oc TO.ini TO.tyI FI hr1 bI .nil pass0 rfl TO.g (pa_cons pe_str pa_nil))))
      pss_nil)), ?_⟩
    refine ⟨_, rfl, ar, ad, rfl, ha, t2, sm, fun H' s => ⟨_, rfl, ?_⟩⟩
    cases e : argsB ad with
    | true => exact iteF (q1 e _ s)
    | false => exact iteT (oor_k (Same.refl _) (by decide +kernel) (q2 e _ s))
def spChk (PN PV D : Addr) : L2.Sp := fun vs H Q E => ∃ (m n : Str) (ar : Addr) (ad : List AV), vs = [.str m, .str n, .ref ar] ∧ m.length ≤ 5000 ∧ n.length ≤ 5000 ∧ H ar = some (.tup (ad.map aV)) ∧ T2 PN PV H ∧ (∀ x ∈ ad, aS x) ∧ (chk m n ad = none → ∀ H', ST PN PV H H' → Q .non H') ∧ (∀ z, chk m n ad = some z → ∀ H', ST PN PV H H' → OErr E D H' z)
theorem scChk : FnScope ["module", "name", "arguments"] ["module", "name", "arguments"] (defScope sChk) := ⟨rfl, rfl, rfl, by decide +kernel, rfl, by decide +kernel, by decide +kernel⟩
theorem ok_chk {f f1 f2 : Addr} {fd fd1 fd2 fdI : FuncData} (F : Fun K "check_call" "check_call" sChk f fd) (TO : TxO K mg D fI) (ne : PN ≠ PV)
    (bI : Binds K fdI ["self", "name"] []) (FI : FnOk P w K mg base CX0 1 fI fdI ["self", "name"] (spOInit D))
    (FN : FO P w K mg base CX0 1 "is_name" ["text"] (spName PN) f1 fd1) (FK : FO P w K mg base (L2.CX P w) 4 "check_arguments" ["values"] (spChkA PN PV D) f2 fd2) : FnOk P w K mg base (L2.CX P w) 5 f fd ["module", "name", "arguments"] (spChk PN PV D) := by
  have sc := scChk
  refine F.okX sc (fun vs H Q E h => ?_) (fun cdv A outer s H vs Q E hr h => ?_)
  · obtain ⟨m, n, ar, ad, rfl, _⟩ := h
    rfl
  · obtain ⟨m, n, ar, ad, rfl, hm, hn, ha, t2, sm, q1, q2⟩ := h
    have hr1 : Room 2 _ := hr.mono (by decide)
    have hrn : Room 1 _ := hr.mono (by decide)
    refine ⟨_, (pss_cons (ps_if (pt_not (pt_val (pe_call FN.ok hrn (by rfl) FN.m FN.kp FN.b .nil pass0 (pa_cons (pv 0) pa_nil))))
      (pss_one (ps_raise rfl (takes_of rfl rfl rfl rfl) (pmk_oex TO.oc TO.ini TO.tyI FI hr1 bI .nil pass0 rfl TO.g (pa_cons pe_str pa_nil))))
      pss_nil)
      (pss_cons (ps_if (pt_not (pt_val (pe_call FN.ok hrn (by rfl) FN.m FN.kp FN.b .nil pass0 (pa_cons (pv 1) pa_nil))))
      (pss_one (ps_raise rfl (takes_of rfl rfl rfl rfl) (pmk_oex TO.oc TO.ini TO.tyI FI hr1 bI .nil pass0 rfl TO.g (pa_cons pe_str pa_nil))))
      pss_nil)
      (pss_one (ps_expr (pe_call FK.ok hr (by rfl) FK.m FK.kp FK.b .nil passE (pa_cons (pv 2) pa_nil)))))), ?_⟩
    refine ⟨_, rfl, m, rfl, hm, t2.n, fun H1 k1 => ⟨_, rfl, ?_⟩⟩
    have s1 := t2.kpN ne k1
    cases e1 : nameB m with
    | false => exact iteT (oor_k (Same.refl _) (by decide +kernel) (q2 _ (by unfold chk; rw [if_pos e1]) _ s1))
    | true =>
    refine iteF ?_
    refine ⟨_, rfl, n, rfl, hn, s1.t.n, fun H2 k2 => ⟨_, rfl, ?_⟩⟩
    have s2 := s1.trans (s1.t.kpN ne k2)
    cases e2 : nameB n with
    | false => exact iteT (oor_k (Same.refl _) (by decide +kernel) (q2 _ (by unfold chk; rw [if_neg (by rw [e1]; decide), if_pos e2]) _ s2))
    | true =>
    refine iteF ?_
    refine ⟨_, rfl, ar, ad, rfl, s2.k _ _ (fun _ z => by cases z) ha, s2.t, sm, fun e3 H3 s3 => q1 ?_ _ (s2.trans s3), fun e3 H3 s3 => q2 _ ?_ _ (s2.trans s3)⟩
    · unfold chk
      rw [if_neg (by rw [e1]; decide), if_neg (by rw [e2]; decide), if_neg (by rw [e3]; decide)]
    · unfold chk
      rw [if_neg (by rw [e1]; decide), if_neg (by rw [e2]; decide), if_pos e3]
end
end K5

set_option maxRecDepth 100000
set_option maxHeartbeats 4000000
/-! a holder -/
namespace K5
open PySem hiding Tok code
open PySem.Spec PyProof.Rows GD K1 GS
open L2 hiding rest
abbrev mHInit : Stmt := inClass cHold 0
abbrev mBegin : Stmt := inClass cHold 1
abbrev mWanted : Stmt := inClass cHold 2
abbrev mHear : Stmt := inClass cHold 3
abbrev mDone : Stmt := inClass cHold 4
mutual
inductive TD (H : Hp) : V → PyData → Prop
  | int (i : Int) : TD H (.int i) (.int i)
  | str (x : Str) : TD H (.str x) (.str x)
  | tup {a : Addr} {xs : List V} {ds : List PyData} : H a = some (.tup xs) → TDs H xs ds → TD H (.ref a) (.tuple ds)
inductive TDs (H : Hp) : List V → List PyData → Prop
  | nil : TDs H [] []
  | cons {v : V} {vs : List V} {d : PyData} {ds : List PyData} : TD H v d → TDs H vs ds → TDs H (v :: vs) (d :: ds)
end
/-- tuples stay -/
def KT (H H' : Hp) : Prop := ∀ q xs, H q = some (.tup xs) → H' q = some (.tup xs)
mutual
theorem TD.up {H H' : Hp} (k : KT H H') : ∀ {v : V} {d : PyData}, TD H v d → TD H' v d
  | _, _, .int i => .int i
  | _, _, .str x => .str x
  | _, _, .tup e t => .tup (k _ _ e) (TDs.up k t)
theorem TDs.up {H H' : Hp} (k : KT H H') : ∀ {vs : List V} {ds : List PyData}, TDs H vs ds → TDs H' vs ds
  | _, _, .nil => .nil
  | _, _, .cons a b => .cons (TD.up k a) (TDs.up k b)
end
mutual
theorem TD.dp {K : PySem.W.Frag} {H : Hp} : ∀ {v : V} {d : PyData}, TD H v d → Dp K H v d
  | _, _, .int i => .int i
  | _, _, .str x => .str x
  | _, _, .tup e t => .tup (SqT.of e) (TDs.dp t)
theorem TDs.dp {K : PySem.W.Frag} {H : Hp} : ∀ {vs : List V} {ds : List PyData}, TDs H vs ds → DpAll K H vs ds
  | _, _, .nil => .nil
  | _, _, .cons a b => .cons (TD.dp a) (TDs.dp b)
end
theorem TDs.app {H : Hp} : ∀ {vs us : List V} {ds es : List PyData}, TDs H vs ds → TDs H us es → TDs H (vs ++ us) (ds ++ es)
  | _, _, _, _, .nil, b => b
  | _, _, _, _, .cons a r, b => .cons a (TDs.app r b)
theorem TDs.len {H : Hp} : ∀ {vs : List V} {ds : List PyData}, TDs H vs ds → vs.length = ds.length
  | _, _, .nil => rfl
  | _, _, .cons _ r => by rw [List.length_cons, List.length_cons, TDs.len r]
theorem pair_imp {α β : Type} {R R' : α → β → Prop} {l : List α} {m : List β} (h : Paired R l m) (k : ∀ a b, R a b → R' a b) : Paired R' l m := by
  induction h with
  | nil => exact .nil
  | cons a _ ih => exact .cons (k _ _ a) ih
theorem pair_len {α β : Type} {R : α → β → Prop} {l : List α} {m : List β} (h : Paired R l m) : l.length = m.length := by
  induction h with
  | nil => rfl
  | cons _ _ ih => rw [List.length_cons, List.length_cons, ih]
theorem pair_snoc {α β : Type} {R : α → β → Prop} {l : List α} {m : List β} {a : α} {b : β} (h : Paired R l m) (k : R a b) : Paired R (l ++ [a]) (m ++ [b]) := by
  induction h with
  | nil => exact .cons k .nil
  | cons a _ ih => exact .cons a ih
theorem iteE {c : Bool} {A B : Prop} (h : c = false) (x : B) : if c = true then A else B := by
  rw [h]
  exact iteF x
theorem iteY {c : Bool} {A B : Prop} (h : c = true) (x : A) : if c = true then A else B := by
  rw [h]
  exact iteT x
def aD : AV → PyData
  | .i n => .int n
  | .s z => .str z
theorem aD_td {H : Hp} : ∀ ad : List AV, TDs H (ad.map aV) (ad.map aD)
  | [] => .nil
  | .i n :: r => .cons (.int n) (aD_td r)
  | .s z :: r => .cons (.str z) (aD_td r)
theorem log_small {n : Nat} (h : n < 100000) : ((n : Nat) : Int).natAbs.log2 < 1920 := by
  rw [Int.natAbs_natCast]
  by_cases h0 : n = 0
  · rw [h0]
    decide
  · have := (Nat.log2_lt (k := 1920) h0).mpr (Nat.lt_of_lt_of_le h (by
      have : 100000 ≤ 2 ^ 17 := by decide
      exact Nat.le_trans this (Nat.pow_le_pow_right (by decide) (by decide))))
    exact this
structure Fit (d : PyData) (k B : Nat) : Prop where
  sh : d.showable = true
  nd : d.hasDict = false
  dp : d.depth ≤ k
  ln : d.shown.length ≤ B
  cl : d.canLay0 = true
theorem Fit.more {d : PyData} {k B k' B' : Nat} (f : Fit d k B) (h1 : k ≤ k') (h2 : B ≤ B') : Fit d k' B' := ⟨f.sh, f.nd, Nat.le_trans f.dp h1, Nat.le_trans f.ln h2, f.cl⟩
theorem Fit.str {z : Str} {n : Nat} (h1 : z.length ≤ n) (h2 : ∀ c ∈ z.cps.toList, c < 1000) : Fit (.str z) 0 (10 * n + 2) := by
  refine ⟨by simp only [PyData.showable], by simp only [PyData.hasDict], by simp only [PyData.depth]; omega, ?_, ?_⟩
  · simp only [PyData.shown]
    have := StrLaws.reprText_len z fun c hc => Nat.lt_trans (h2 c hc) (by decide)
    omega
  · simp only [PyData.canLay0]
    unfold PyData.strOk
    rw [Array.all_eq_true]
    intro i hi
    exact decide_eq_true (Nat.lt_trans (h2 _ (by
      have : z.cps[i] ∈ z.cps := Array.getElem_mem hi
      exact Array.mem_toList_iff.mpr this)) (by decide))
theorem Fit.strS {l : List Nat} {n : Nat} (h1 : l.length ≤ n) (h2 : ∀ c ∈ l, c < 1000) : Fit (.str (S l)) 0 (10 * n + 2) := Fit.str (by rw [S_len]; exact h1) h2
theorem Fit.num {n : Nat} (h : n ≤ 99999) : Fit (.int (n : Nat)) 0 5 := by
  refine ⟨?_, by simp only [PyData.hasDict], by simp only [PyData.depth]; omega, ?_, by simp only [PyData.canLay0]⟩
  · simp only [PyData.showable]
    exact decide_eq_true (log_small (by omega))
  · simp only [PyData.shown]
    have := (numT_dig h).2.1
    have e : (Str.ofString (toString ((n : Nat) : Int))).length = (numT n).length := by
      show (Str.ofString (toString ((n : Nat) : Int))).cps.size = _
      unfold numT
      simp
    rw [← e] at this
    exact this
theorem Fit.bool (b : Bool) : Fit (.bool b) 0 5 := by
  refine ⟨by simp only [PyData.showable], by simp only [PyData.hasDict], by simp only [PyData.depth]; omega, ?_, by simp only [PyData.canLay0]⟩
  cases b <;> simp only [PyData.shown] <;> decide
theorem Fit.none : Fit .none 0 5 := by
  refine ⟨by simp only [PyData.showable], by simp only [PyData.hasDict], by simp only [PyData.depth]; omega, ?_, by simp only [PyData.canLay0]⟩
  simp only [PyData.shown]; decide
structure FitA (ds : List PyData) (k B : Nat) : Prop where
  sh : PyData.showableAll ds = true
  nd : PyData.hasDictAll ds = false
  dp : PyData.depthAll ds ≤ k
  ln : ∀ x ∈ PyData.shownAll ds, x.length ≤ B
  le : (PyData.shownAll ds).length = ds.length
  cl : PyData.canLayAll0 ds = true
theorem FitA.of {k B : Nat} : ∀ {ds : List PyData}, (∀ d ∈ ds, Fit d k B) → FitA ds k B
  | [], _ => ⟨rfl, rfl, Nat.zero_le _, fun x hx => (by cases hx), rfl, rfl⟩
  | d :: ds, h => by
    have f := h d List.mem_cons_self
    have r := FitA.of (ds := ds) fun x hx => h x (List.mem_cons_of_mem _ hx)
    refine ⟨?_, ?_, ?_, fun x hx => ?_, ?_, ?_⟩
    · show (PyData.showable d && PyData.showableAll ds) = true
      rw [f.sh, r.sh]; rfl
    · show (PyData.hasDict d || PyData.hasDictAll ds) = false
      rw [f.nd, r.nd]; rfl
    · show max (PyData.depth d) (PyData.depthAll ds) ≤ k
      have := f.dp; have := r.dp; omega
    · rcases List.mem_cons.mp hx with rfl | hx
      · exact f.ln
      · exact r.ln x hx
    · show (PyData.shownAll ds).length + 1 = ds.length + 1
      rw [r.le]
    · show (PyData.canLay0 d && PyData.canLayAll0 ds) = true
      rw [f.cl, r.cl]; rfl
theorem textFrom_up2 : ∀ (ts : List Str) (k : Nat) (acc : Str) (B : Nat), (∀ t ∈ ts, t.length ≤ B) → (textFrom k acc ts).length ≤ acc.length + ts.length * (B + 2)
  | [], k, acc, B, _ => by
    show acc.length ≤ _
    omega
  | t :: ts, k, acc, B, h => by
    have ih := textFrom_up2 ts (k + 1) (acc ++ (if k > 0 then ", " else "" : String) ++ t) B (fun x hx => h x (List.mem_cons_of_mem _ hx))
    have ht := h t List.mem_cons_self
    have e : (acc ++ (if k > 0 then ", " else "" : String) ++ t).length ≤ acc.length + 2 + t.length := by
      rw [strLen_append, strLen_append]
      have : ((if k > 0 then ", " else "" : String) : Str).length ≤ 2 := by split <;> decide
      omega
    show (textFrom (k + 1) (acc ++ (if k > 0 then ", " else "" : String) ++ t) ts).length ≤ acc.length + (ts.length + 1) * (B + 2)
    rw [Nat.add_mul]
    omega
theorem Fit.list {ds : List PyData} {k B : Nat} (h : ∀ d ∈ ds, Fit d k B) : Fit (.list ds) (k + 1) (ds.length * (B + 2) + 4) := by
  have r := FitA.of h
  refine ⟨by simpa only [PyData.showable] using r.sh, by simpa only [PyData.hasDict] using r.nd, by simp only [PyData.depth]; have := r.dp; omega, ?_, by simpa only [PyData.canLay0] using r.cl⟩
  simp only [PyData.shown]
  unfold listText
  rw [strLen_append]
  have := textFrom_up2 (PyData.shownAll ds) 0 "[" B r.ln
  rw [r.le] at this
  have e1 : (("[" : String) : Str).length = 1 := rfl
  have e2 : (("]" : String) : Str).length = 1 := rfl
  rw [e1] at this
  rw [e2]
  omega
theorem piled_le {B : Nat} : ∀ {ts : List Str}, (∀ t ∈ ts, t.length ≤ B) → piled ts ≤ ts.length * (B + 2)
  | [], _ => Nat.zero_le _
  | t :: ts, h => by
    have h1 := h t List.mem_cons_self
    have h2 := piled_le (ts := ts) fun x hx => h x (List.mem_cons_of_mem _ hx)
    have e : piled (t :: ts) = t.length + 2 + piled ts := by simp [piled]
    rw [e, List.length_cons, Nat.succ_mul]
    omega
theorem Fit.tup {ds : List PyData} {k B : Nat} (h : ∀ d ∈ ds, Fit d k B) : Fit (.tuple ds) (k + 1) (ds.length * (B + 2) + 4) := by
  have r := FitA.of h
  refine ⟨by simpa only [PyData.showable] using r.sh, by simpa only [PyData.hasDict] using r.nd, by simp only [PyData.depth]; have := r.dp; omega, ?_, by simpa only [PyData.canLay0] using r.cl⟩
  simp only [PyData.shown]
  unfold tupleText
  rw [strLen_append, strLen_append]
  have e1 : (("(" : String) : Str).length = 1 := rfl
  have e2 : ((if (PyData.shownAll ds).length == 1 then ",)" else ")" : String) : Str).length ≤ 2 := by split <;> decide
  have e3 : (Str.join ", " (PyData.shownAll ds)).length ≤ ds.length * (B + 2) := by
    by_cases z : PyData.shownAll ds = []
    · rw [z]; exact Nat.zero_le _
    · have := join_length_add _ z
      have := piled_le r.ln
      rw [r.le] at this
      omega
  omega
/-- what a holder is: its number, what is answered, what waits -/
structure HoS where
  num : Int
  an : List PyData
  wa : Option (List PyData)
def hF (n : Int) (wv : V) (L : Addr) : List (Str × V) := [("number", .int n), ("waiting", wv), ("answered", .ref L)]
def WaR (H : Hp) (n : Int) (c : Nat) : V → Option (List PyData) → Prop
  | v, none => v = .non
  | v, some w3 => ∃ t x3, v = .ref t ∧ H t = some (.tup (.str "call" :: .int n :: .int (c : Nat) :: x3)) ∧ TDs H x3 w3 ∧ w3.length = 3
structure HA (C : Addr) (H : Hp) (p L : Addr) (s : HoS) : Prop where
  ex : ∃ dx wv vs, H p = some (.ins C dx (hF s.num wv L)) ∧ H dx = some (.own p) ∧ H L = some (.lst vs) ∧ Paired (TD H) vs s.an ∧ WaR H s.num s.an.length wv s.wa
theorem WaR.up {H H' : Hp} {n : Int} {c : Nat} (k : KT H H') : ∀ {v : V} {o : Option (List PyData)}, WaR H n c v o → WaR H' n c v o
  | _, none, h => h
  | _, some _, ⟨t, x3, e, h1, h2, l⟩ => ⟨t, x3, e, k _ _ h1, h2.up k, l⟩
theorem HA.up {C : Addr} {H H' : Hp} {p L : Addr} {s : HoS} (h : HA C H p L s) (k : ∀ q o, (∀ ps, o ≠ .tbl ps) → (q = L ∨ ∀ xs, o ≠ .lst xs) → H q = some o → H' q = some o) : HA C H' p L s := by
  obtain ⟨dx, wv, vs, h1, h2, h3, h4, h5⟩ := h.ex
  have kt : KT H H' := fun q xs e => k q _ (fun _ z => by cases z) (.inr fun _ z => by cases z) e
  exact ⟨dx, wv, vs, k _ _ (fun _ z => by cases z) (.inr fun _ z => by cases z) h1, k _ _ (fun _ z => by cases z) (.inr fun _ z => by cases z) h2, k _ _ (fun _ z => by cases z) (.inl rfl) h3, pair_imp h4 fun a b t => t.up kt, h5.up kt⟩
structure TxH (K : PySem.W.Frag) (mg : Str → Option Value) (C : Addr) : Prop where
  cl : Cls K C
  n1 : NoAttr K C "number"
  n2 : NoAttr K C "waiting"
  n3 : NoAttr K C "answered"
  g : mg "Holder" = some (.ref C)
theorem hF_n {n : Int} {wv : V} {L : Addr} : (hF n wv L).lookup ("number" : Str) = some (.int n) := rfl
theorem hF_w {n : Int} {wv : V} {L : Addr} : (hF n wv L).lookup ("waiting" : Str) = some wv := by
  unfold hF
  simp [List.lookup, show (("waiting" : Str) == "number") = false by decide +kernel]
theorem hF_a {n : Int} {wv : V} {L : Addr} : (hF n wv L).lookup ("answered" : Str) = some (.ref L) := by
  unfold hF
  simp [List.lookup, show (("answered" : Str) == "number") = false by decide +kernel, show (("answered" : Str) == "waiting") = false by decide +kernel]
theorem hF_no {n : Int} {wv : V} {L : Addr} {f : Str} (h : ([("number" : Str), "waiting", "answered"] : List Str).all (fun g : Str => !(f == g)) = true) : (hF n wv L).lookup f = none := by
  unfold hF
  simp only [List.all_cons, List.all_nil, Bool.and_true, Bool.and_eq_true, Bool.not_eq_true'] at h
  obtain ⟨a, b, c⟩ := h
  simp [List.lookup, a, b, c]
theorem hF_put {n : Int} {wv v : V} {L : Addr} : putF "waiting" v (hF n wv L) = hF n v L := by
  unfold hF
  simp [putF, show ¬ (("number" : Str) = "waiting") by decide +kernel]
theorem hF_new {n : Int} {L : Addr} : putF "answered" (.ref L) (putF "waiting" .non (putF "number" (.int n) [])) = hF n .non L := by
  unfold hF
  simp [putF, show ¬ (("number" : Str) = "waiting") by decide +kernel, show ¬ (("number" : Str) = "answered") by decide +kernel, show ¬ (("waiting" : Str) = "answered") by decide +kernel]
structure TxP (K : PySem.W.Frag) (mg : Str → Option Value) (x : Str) (PC : Addr) : Prop where
  g : mg x = some (.ref PC)
  x : PySem.W.excIn K PC [.type "ValueError", .type "Exception", .type "BaseException", .type "object"] "ValueError.__new__" = true
  k : PySem.W.keepIn K (.ref PC) = true
  b : PySem.W.subIn K (.ref PC) (.type "BaseException") = some true
  t : PySem.W.typeIn K (.ref PC) = some (.type "type")
section
variable {P : Program} {w : World} {K : PySem.W.Frag} {mg : Str → Option Value} {base : Heap} {D C PC fI PN PV : Addr}
def spHInit (C : Addr) : L2.Sp := fun vs H Q _ => ∃ (p dx : Addr) (n : Int), vs = [.ref p, .int n] ∧ H p = some (.ins C dx []) ∧ H dx = some (.own p) ∧
  ∀ H' L, (∀ q o, q ≠ p → H q = some o → H' q = some o) → H L = none → HA C H' p L ⟨n, [], none⟩ → Q .non H'
theorem scHInit : FnScope ["self", "number"] ["self", "number"] (defScope mHInit) := ⟨rfl, rfl, rfl, by decide +kernel, rfl, by decide +kernel, by decide +kernel⟩
theorem ok_hinit {f : Addr} {fd : FuncData} (F : Fun K "__init__" "Holder.__init__" mHInit f fd) (TH : TxH K mg C) : FnOk P w K mg base CX0 1 f fd ["self", "number"] (spHInit C) := by
  have sc := scHInit
  refine F.ok sc (fun vs H Q E h => ?_) (fun cdv A outer s H vs Q E hr h => ?_)
  · obtain ⟨p, dx, n, rfl, _⟩ := h
    rfl
  · obtain ⟨p, dx, n, rfl, hp, hdx, q⟩ := h
    refine ⟨_, (pss_cons (ps_fld (pv 0) (pv 1) rfl)
      (pss_cons (ps_fld (pv 0) pe_non rfl)
      (pss_one (ps_fld (pv 0) (pe_lst pa_nil) rfl)))), ?_⟩
    refine ⟨_, rfl, _, rfl, p, C, dx, _, rfl, hp, TH.cl, TH.n1, (by show 0 < 1000; decide), ?_⟩
    refine ⟨_, rfl, p, C, dx, _, rfl, upd_same, TH.cl, TH.n2, (by show 1 < 1000; decide), ?_⟩
    refine ⟨by decide, fun L nL => ?_⟩
    have nLp : p ≠ L := ne_of_none upd_same nL
    have nL0 : H L = none := by rw [upd_ne nLp.symm, upd_ne nLp.symm] at nL; exact nL
    refine ⟨_, rfl, p, C, dx, _, rfl, (by rw [upd_ne nLp, upd_same]), TH.cl, TH.n3, (by show 2 < 1000; decide), ?_⟩
    rw [hF_new]
    have nd : dx ≠ p := ne_of hdx hp (by intro z; cases z)
    refine q _ L (fun q o a e => ?_) nL0 ⟨dx, .non, [], upd_same, ?_, ?_, .nil, rfl⟩
    · rw [upd_ne a, upd_ne (ne_of_none e nL0), upd_ne a, upd_ne a]
      exact e
    · rw [upd_ne nd, upd_ne (ne_of_none hdx nL0), upd_ne nd, upd_ne nd]
      exact hdx
    · rw [upd_ne nLp.symm, upd_same]
def spWanted (C : Addr) : L2.Sp := fun vs H Q _ => ∃ (p L : Addr) (s : HoS), vs = [.ref p] ∧ HA C H p L s ∧ ∀ v, WaR H s.num s.an.length v s.wa → Q v H
theorem scWanted : FnScope ["self"] ["self"] (defScope mWanted) := ⟨rfl, rfl, rfl, by decide +kernel, rfl, by decide +kernel, by decide +kernel⟩
theorem ok_wanted {f : Addr} {fd : FuncData} (F : Fun K "wanted" "Holder.wanted" mWanted f fd) (TH : TxH K mg C) : FnOk P w K mg base CX0 1 f fd ["self"] (spWanted C) := by
  have sc := scWanted
  refine F.ok sc (fun vs H Q E h => ?_) (fun cdv A outer s H vs Q E hr h => ?_)
  · obtain ⟨p, L, s, rfl, _⟩ := h
    rfl
  · obtain ⟨p, L, s, rfl, ha, q⟩ := h
    obtain ⟨dx, wv, vs, h1, h2, h3, h4, h5⟩ := ha.ex
    refine ⟨_, (pss_one (ps_ret (pe_fld (pv 0) rfl))), ?_⟩
    exact ⟨_, rfl, p, C, dx, _, _, rfl, h1, TH.cl, TH.n2, hF_w, q _ h5⟩
def spDone (C : Addr) : L2.Sp := fun vs H Q _ => ∃ (p L : Addr) (s : HoS), vs = [.ref p] ∧ HA C H p L s ∧ ∀ H' q vs', Same H H' → H q = none → H' q = some (.lst vs') → Paired (TD H') vs' s.an → Q (.ref q) H'
theorem scDone : FnScope ["self"] ["self"] (defScope mDone) := ⟨rfl, rfl, rfl, by decide +kernel, rfl, by decide +kernel, by decide +kernel⟩
theorem ok_done {f : Addr} {fd : FuncData} (F : Fun K "done" "Holder.done" mDone f fd) (T : Txt K mg) (TH : TxH K mg C) : FnOk P w K mg base CX0 1 f fd ["self"] (spDone C) := by
  have sc := scDone
  refine F.ok sc (fun vs H Q E h => ?_) (fun cdv A outer s H vs Q E hr h => ?_)
  · obtain ⟨p, L, s, rfl, _⟩ := h
    rfl
  · obtain ⟨p, L, s, rfl, ha, q⟩ := h
    obtain ⟨dx, wv, vs, h1, h2, h3, h4, h5⟩ := ha.ex
    refine ⟨_, (pss_one (ps_ret (pe_callTy call_list_of (by rfl) T.blist (by decide +kernel) (pa_cons (pe_fld (pv 0) rfl) pa_nil)))), ?_⟩
    refine ⟨_, rfl, p, C, dx, _, _, rfl, h1, TH.cl, TH.n3, hF_a, L, _, rfl, .inl (SqL.of h3), fun l nl => ?_⟩
    have s1 : Same H (upd H l (.lst vs)) := Same.lst (Same.refl H) nl
    exact q _ l vs s1 nl upd_same (pair_imp h4 fun a b t => t.up fun q xs e => s1 _ _ e)
end
end K5

set_option maxRecDepth 100000
set_option maxHeartbeats 4000000
/-! begin, hear -/
namespace K5
open PySem hiding Tok code
open PySem.Spec PyProof.Rows GD K1 GS
open L2 hiding rest
structure Txt7 (mg : Str → Option Value) : Prop where
  btuple : mg "tuple" = none
  max : mg "max" = none
  isinstance : mg "isinstance" = none
section
variable {P : Program} {w : World} {K : PySem.W.Frag} {mg : Str → Option Value} {base : Heap} {D C PC fI PN PV : Addr}
/-- all but the tables and that place stays -/
def SP (PN PV p : Addr) (H H' : Hp) : Prop := T2 PN PV H' ∧ ∀ q o, (∀ ps, o ≠ .tbl ps) → q ≠ p → H q = some o → H' q = some o
def spBegin (C D PC PN PV : Addr) : L2.Sp := fun vs H Q E => ∃ (p L : Addr) (s : HoS) (m n : Str) (ar : Addr) (ad : List AV), vs = [.ref p, .str m, .str n, .ref ar] ∧ HA C H p L s ∧ m.length ≤ 5000 ∧ n.length ≤ 5000 ∧ H ar = some (.tup (ad.map aV)) ∧ T2 PN PV H ∧ (∀ x ∈ ad, aS x) ∧
  (s.wa ≠ none → E (.ref PC) none H) ∧ (s.wa = none → (∀ z, chk m n ad = some z → ∀ H', ST PN PV H H' → OErr E D H' z) ∧
    (chk m n ad = none → ∀ H', SP PN PV p H H' → HA C H' p L ⟨s.num, s.an, some [.str m, .str n, .tuple (ad.map aD)]⟩ → Q (.int (s.an.length : Nat)) H'))
theorem scBegin : FnScope ["self", "module", "name", "arguments", "count"] ["self", "module", "name", "arguments"] (defScope mBegin) := ⟨rfl, rfl, rfl, by decide +kernel, rfl, by decide +kernel, by decide +kernel⟩
theorem ok_begin {f f1 : Addr} {fd fd1 : FuncData} (F : Fun K "begin" "Holder.begin" mBegin f fd) (T : Txt K mg) (T2 : Txt7 mg) (TH : TxH K mg C) (TP : TxP K mg "AtWork" PC)
    (FC : FO P w K mg base (L2.CX P w) 5 "check_call" ["module", "name", "arguments"] (spChk PN PV D) f1 fd1) : FnOk P w K mg base (L2.CX P w) 6 f fd ["self", "module", "name", "arguments"] (spBegin C D PC PN PV) := by
  have sc := scBegin
  refine F.okX sc (fun vs H Q E h => ?_) (fun cdv A outer s H vs Q E hr h => ?_)
  · obtain ⟨p, L, s, m, n, ar, ad, rfl, _⟩ := h
    rfl
  · obtain ⟨p, L, s, m, n, ar, ad, rfl, ha, hm, hn, har, t2, sm, q1, q2⟩ := h
    obtain ⟨dx, wv, vs, h1, h2, h3, h4, h5⟩ := ha.ex
    refine ⟨_, (pss_cons (ps_if (pt_cmpR op_notN (pe_fld (pv 0) rfl) pe_non (nomark _))
      (pss_one (ps_raise rfl (takes_of rfl rfl rfl rfl) (pmk_own PySem.F.excBase_ValueError TP.x TP.g TP.k (raises_own TP.b TP.t) rfl)))
      pss_nil)
      (pss_cons (ps_expr (pe_call FC.ok hr (by rfl) FC.m FC.kp FC.b .nil passE (pa_cons (pv 1) (pa_cons (pv 2) (pa_cons (pv 3) pa_nil)))))
      (pss_cons (ps_set (i := 4) sc.nd rfl (Or.inl rfl) (pe_callB call_len_seq (by rfl) T.len (by decide +kernel) (pa_cons (pe_fld (pv 0) rfl) pa_nil)))
      (pss_cons (ps_fld (pv 0) (pe_tup (pa_cons pe_str (pa_cons (pe_fld (pv 0) rfl) (pa_cons (pv 4) (pa_cons (pv 1) (pa_cons (pv 2) (pa_cons (pe_callTy call_tuple_of (by rfl) T2.btuple (by decide +kernel) (pa_cons (pv 3) pa_nil)) pa_nil))))))) rfl)
      (pss_one (ps_ret (pv 4))))))), ?_⟩
    refine ⟨_, rfl, p, C, dx, _, _, rfl, h1, TH.cl, TH.n2, hF_w, rfl, _, rfl, ?_⟩
    cases hw : s.wa with
    | some w3 =>
      rw [hw] at h5
      obtain ⟨t, x3, e, _⟩ := h5
      subst e
      exact iteY (by exact congrArg (!·) (decide_eq_false fun z => by cases z)) (q1 (by rw [hw]; intro z; cases z))
    | none =>
      rw [hw] at h5
      have h5 : wv = .non := h5
      subst h5
      obtain ⟨q3, q4⟩ := q2 hw
      refine iteE (by exact congrArg (!·) (decide_eq_true rfl)) ?_
      refine ⟨_, rfl, _, rfl, _, rfl, m, n, ar, ad, rfl, hm, hn, har, t2, sm, fun e H1 s1 => ?_, fun z e H1 s1 => q3 z e H1 s1⟩
      have g1 := s1.k _ _ (fun _ z => by cases z) h1
      have g2 := s1.k _ _ (fun _ z => by cases z) h2
      have g3 := s1.k _ _ (fun _ z => by cases z) h3
      have gar := s1.k _ _ (fun _ z => by cases z) har
      refine ⟨_, rfl, p, C, dx, _, _, rfl, g1, TH.cl, TH.n3, hF_a, L, _, rfl, .inl (SqL.of g3), ?_⟩
      rw [pair_len h4]
      refine ⟨_, rfl, p, C, dx, _, _, rfl, g1, TH.cl, TH.n1, hF_n, _, rfl, _, rfl, _, rfl, _, rfl, ar, _, rfl, .inr ⟨SqT.of gar, (by show 6 ≤ sizeLine; decide), fun t nt => ?_⟩⟩
      have s2 : Same H1 (upd H1 t (.tup [.str "call", .int s.num, .int (s.an.length : Nat), .str m, .str n, .ref ar])) := snew (Same.refl _) nt
      have et : upd H1 t (.tup [.str "call", .int s.num, .int (s.an.length : Nat), .str m, .str n, .ref ar]) t = some (.tup [.str "call", .int s.num, .int (s.an.length : Nat), .str m, .str n, .ref ar]) := upd_same
      generalize upd H1 t (.tup [.str "call", .int s.num, .int (s.an.length : Nat), .str m, .str n, .ref ar]) = H2 at *
      refine ⟨_, rfl, p, C, dx, _, rfl, s2 _ _ g1, TH.cl, TH.n2, (by show 3 < 1000; decide), ?_⟩
      rw [hF_put]
      have s12 : ST PN PV H H2 := s1.trans (s1.t.st s2)
      have ep := s2 _ _ g1
      have up : ∀ q o, q ≠ p → H2 q = some o → upd H2 p (.ins C dx (hF s.num (.ref t) L)) q = some o := fun q o a e => by
        rw [upd_ne a]
        exact e
      have kt : KT H2 (upd H2 p (.ins C dx (hF s.num (.ref t) L))) := fun q xs e => up q _ (ne_of e ep (by intro z; cases z)) e
      have kt0 : KT H H2 := fun q xs e => s12.k q _ (fun _ z => by cases z) e
      refine ⟨_, rfl, q4 e _ ⟨⟨tab_wr s12.t.n ep (fun _ z => by cases z), tab_wr s12.t.v ep (fun _ z => by cases z)⟩, fun q o nt np e => up q o np (s12.k q o nt e)⟩ ⟨dx, .ref t, vs, upd_same, up _ _ (ne_of (s2 _ _ g2) ep (by intro z; cases z)) (s2 _ _ g2), up _ _ (ne_of (s2 _ _ g3) ep (by intro z; cases z)) (s2 _ _ g3), pair_imp h4 fun a b t => (t.up kt0).up kt, t, [.str m, .str n, .ref ar], rfl, kt _ _ et, .cons (.str _) (.cons (.str _) (.cons (.tup (kt _ _ (s2 _ _ gar)) (aD_td ad)) .nil)), rfl⟩⟩
def eqv3 (o c n k : Int) : Bool := decide (o = n ∧ c = k)
theorem eqv3_eq (o c n k : Int) : PyData.eqv (.tuple [.str "answer", .int o, .int c]) (.tuple [.str "answer", .int n, .int k]) = eqv3 o c n k := by
  unfold eqv3
  show ((("answer" : Str) == "answer") && ((o == n) && ((c == k) && true))) = _
  rw [show (("answer" : Str) == "answer") = true from beq_self_eq_true _, Bool.true_and, Bool.and_true]
  by_cases h1 : o = n <;> by_cases h2 : c = k <;> simp [h1, h2]
def spHear (C : Addr) : L2.Sp := fun vs H Q _ => ∃ (p L : Addr) (s : HoS) (la : Addr) (o c : Int) (y1 y2 : V) (d1 d2 : PyData), vs = [.ref p, .ref la] ∧ HA C H p L s ∧ s.an.length ≤ 1000 ∧ H la = some (.tup [.str "answer", .int o, .int c, y1, y2]) ∧ TD H y1 d1 ∧ TD H y2 d2 ∧
  ((s.wa = none ∨ eqv3 o c s.num (s.an.length : Nat) = false) → ∀ H', Same H H' → Q (.bl false) H') ∧
  (∀ w3, s.wa = some w3 → eqv3 o c s.num (s.an.length : Nat) = true → ∀ H', (∀ q u, q ≠ p → q ≠ L → H q = some u → H' q = some u) → HA C H' p L ⟨s.num, s.an ++ [.tuple (w3 ++ [d1, d2])], none⟩ → Q (.bl true) H')
theorem scHear : FnScope ["self", "letter"] ["self", "letter"] (defScope mHear) := ⟨rfl, rfl, rfl, by decide +kernel, rfl, by decide +kernel, by decide +kernel⟩
theorem ok_hear {f : Addr} {fd : FuncData} (F : Fun K "hear" "Holder.hear" mHear f fd) (TH : TxH K mg C) : FnOk P w K mg base CX0 1 f fd ["self", "letter"] (spHear C) := by
  have sc := scHear
  refine F.ok sc (fun vs H Q E h => ?_) (fun cdv A outer s H vs Q E hr h => ?_)
  · obtain ⟨p, L, s, la, o, c, y1, y2, d1, d2, rfl, _⟩ := h
    rfl
  · obtain ⟨p, L, s, la, o, c, y1, y2, d1, d2, rfl, ha, hl, hla, t1, t2, q1, q2⟩ := h
    obtain ⟨dx, wv, vs, h1, h2, h3, h4, h5⟩ := ha.ex
    refine ⟨_, (pss_cons (ps_if (PW.pt (pw_or (pt_cmpR op_isN (pe_fld (pv 0) rfl) pe_non (nomark _)) (pw_or1 (pt_cmpR (op_neD hr.units) (pe_slice sl_tup (pv 1) po_none (po_some pe_int)) (pe_op op_catT (pe_tup (pa_cons pe_str pa_nil)) (pe_slice sl_tup (pe_fld (pv 0) rfl) (po_some pe_int) (po_some pe_int))) (nomark _)))))
      (pss_one (ps_ret pe_bl))
      pss_nil)
      (pss_cons (ps_expr (pe_bm PySem.F.plainAttrs_list PySem.F.slot_list_append PySem.F.type_list_append mt_append (pe_fld (pv 0) rfl) (pa_cons (pe_op op_catT (pe_slice sl_tup (pe_fld (pv 0) rfl) (po_some pe_int) po_none) (pe_slice sl_tup (pv 1) (po_some pe_int) po_none)) pa_nil)))
      (pss_cons (ps_fld (pv 0) pe_non rfl)
      (pss_one (ps_ret pe_bl))))), ?_⟩
    refine ⟨_, rfl, p, C, dx, _, _, rfl, h1, TH.cl, TH.n2, hF_w, rfl, _, rfl, ?_⟩
    cases hw : s.wa with
    | none =>
      rw [hw] at h5
      have h5 : wv = .non := h5
      subst h5
      exact iteY (decide_eq_true rfl) (iteT (q1 (.inl hw) _ (Same.refl H)))
    | some w3 =>
      rw [hw] at h5
      obtain ⟨t, x3, e, ht, td, l3⟩ := h5
      subst e
      refine iteE (decide_eq_false fun z => by cases z) ?_
      obtain ⟨x1, x2, x4, rfl⟩ : ∃ x1 x2 x4, x3 = [x1, x2, x4] := by
        have l := TDs.len td
        rw [l3] at l
        match x3, l with
        | [a, b, c], _ => exact ⟨a, b, c, rfl⟩
      refine ⟨_, rfl, 3, rfl, la, _, rfl, SqT.of hla, by show ¬ (HT.sIx 5 0 none = 0 ∧ HT.sIx 5 5 (some 3) = 5); decide, fun a1 na1 => ?_⟩
      have s1 : Same H (upd H a1 (.tup [.str "answer", .int o, .int c])) := snew (Same.refl _) na1
      have e1 : upd H a1 (.tup [.str "answer", .int o, .int c]) a1 = some (.tup [.str "answer", .int o, .int c]) := upd_same
      show (tOp _ _ _) _ (upd H a1 (.tup [.str "answer", .int o, .int c])) _
      generalize upd H a1 (.tup [.str "answer", .int o, .int c]) = H1 at *
      refine ⟨(by show 1 ≤ sizeLine; decide), fun a2 na2 => ?_⟩
      have s2 : Same H1 (upd H1 a2 (.tup [.str "answer"])) := snew (Same.refl _) na2
      have e2 : upd H1 a2 (.tup [.str "answer"]) a2 = some (.tup [.str "answer"]) := upd_same
      generalize upd H1 a2 (.tup [.str "answer"]) = H2 at *
      have s02 := strans s1 s2
      refine ⟨_, rfl, p, C, dx, _, _, rfl, s02 _ _ h1, TH.cl, TH.n2, hF_w, 1, rfl, 3, rfl, t, _, rfl, SqT.of (s02 _ _ ht), by show ¬ (HT.sIx 6 0 (some 1) = 0 ∧ HT.sIx 6 6 (some 3) = 6); decide, fun a3 na3 => ?_⟩
      have s3 : Same H2 (upd H2 a3 (.tup [.int s.num, .int (s.an.length : Nat)])) := snew (Same.refl _) na3
      have e3 : upd H2 a3 (.tup [.int s.num, .int (s.an.length : Nat)]) a3 = some (.tup [.int s.num, .int (s.an.length : Nat)]) := upd_same
      refine ⟨a2, a3, [.str "answer"], [.int s.num, .int (s.an.length : Nat)], rfl, rfl, SqT.of (s3 _ _ e2), SqT.of e3, by simp, by show 1 + 2 ≤ sizeLine; decide, fun z => (by cases z), fun _ a4 na4 => ?_⟩
      have e3' : upd H2 a3 (.tup (cutV [.str "call", .int s.num, .int (s.an.length : Nat), x1, x2, x4] (some 1) (some 3))) = upd H2 a3 (.tup [.int s.num, .int (s.an.length : Nat)]) := rfl
      rw [e3'] at na4 ⊢
      generalize upd H2 a3 (.tup [.int s.num, .int (s.an.length : Nat)]) = H3 at *
      have s03 := strans s02 s3
      have s4 : Same H3 (upd H3 a4 (.tup [.str "answer", .int s.num, .int (s.an.length : Nat)])) := snew (Same.refl _) na4
      have s04 := strans s03 s4
      refine ⟨.tuple [.str "answer", .int o, .int c], .tuple [.str "answer", .int s.num, .int (s.an.length : Nat)], .tup (SqT.of (s4 _ _ (s3 _ _ (s2 _ _ e1)))) (.cons (.str _) (.cons (.int _) (.cons (.int _) .nil))), .tup (SqT.of upd_same) (.cons (.str _) (.cons (.int _) (.cons (.int _) .nil))), by with_unfolding_all rfl, by with_unfolding_all rfl, _, rfl, ?_⟩
      rw [eqv3_eq]
      show if (!eqv3 o c s.num (s.an.length : Nat)) = true then _ else _
      cases hq : eqv3 o c s.num (s.an.length : Nat) with
      | false => exact iteT (q1 (.inr hq) _ s04)
      | true =>
      refine iteF ?_
      show tNext _ _ (upd H3 a4 (.tup [.str "answer", .int s.num, .int (s.an.length : Nat)]))
      generalize upd H3 a4 (.tup [.str "answer", .int s.num, .int (s.an.length : Nat)]) = H4 at *
      have g1 := s04 _ _ h1
      have g3 := s04 _ _ h3
      have gt := s04 _ _ ht
      have gl := s04 _ _ hla
      refine ⟨_, rfl, p, C, dx, _, _, rfl, g1, TH.cl, TH.n3, hF_a, .inl ⟨rfl, _, SqL.of g3⟩, _, rfl, p, C, dx, _, _, rfl, g1, TH.cl, TH.n2, hF_w, 3, rfl, t, _, rfl, SqT.of gt, by show ¬ (HT.sIx 6 0 (some 3) = 0 ∧ HT.sIx 6 6 none = 6); decide, fun a5 na5 => ?_⟩
      have s5 : Same H4 (upd H4 a5 (.tup [x1, x2, x4])) := snew (Same.refl _) na5
      have e5 : upd H4 a5 (.tup [x1, x2, x4]) a5 = some (.tup [x1, x2, x4]) := upd_same
      refine ⟨_, rfl, 3, rfl, la, _, rfl, SqT.of (s5 _ _ gl), by show ¬ (HT.sIx 5 0 (some 3) = 0 ∧ HT.sIx 5 5 none = 5); decide, fun a6 na6 => ?_⟩
      have na6 : upd H4 a5 (.tup [x1, x2, x4]) a6 = none := na6
      show rCatT _ (.ref a5) (.ref a6) (upd (upd H4 a5 (.tup [x1, x2, x4])) a6 (.tup [y1, y2])) _
      generalize upd H4 a5 (.tup [x1, x2, x4]) = H5 at *
      have s6 : Same H5 (upd H5 a6 (.tup [y1, y2])) := snew (Same.refl _) na6
      have e6 : upd H5 a6 (.tup [y1, y2]) a6 = some (.tup [y1, y2]) := upd_same
      refine ⟨a5, a6, [x1, x2, x4], [y1, y2], rfl, rfl, SqT.of (s6 _ _ e5), SqT.of e6, by simp, by show 3 + 2 ≤ sizeLine; decide, fun z => (by cases z), fun _ a7 na7 => ?_⟩
      generalize upd H5 a6 (.tup [y1, y2]) = H6 at *
      have s7 : Same H6 (upd H6 a7 (.tup ([x1, x2, x4] ++ [y1, y2]))) := snew (Same.refl _) na7
      have e7 : upd H6 a7 (.tup ([x1, x2, x4] ++ [y1, y2])) a7 = some (.tup ([x1, x2, x4] ++ [y1, y2])) := upd_same
      generalize upd H6 a7 (.tup ([x1, x2, x4] ++ [y1, y2])) = H7 at *
      have s07 : Same H H7 := strans s04 (strans s5 (strans s6 s7))
      have k3 := s07 _ _ h3
      have k1 := s07 _ _ h1
      refine ⟨L, vs, _, rfl, rfl, k3, by rw [pair_len h4]; exact szlt (by omega), ?_⟩
      have npL : p ≠ L := ne_of h1 h3 (by intro z; cases z)
      refine ⟨_, rfl, p, C, dx, _, rfl, (by rw [upd_ne npL]; exact k1), TH.cl, TH.n2, (by show 3 < 1000; decide), ?_⟩
      rw [hF_put]
      have up : ∀ q u, q ≠ p → q ≠ L → H7 q = some u → upd (upd H7 L (.lst (vs ++ [.ref a7]))) p (.ins C dx (hF s.num .non L)) q = some u := fun q u a b e => by
        rw [upd_ne a, upd_ne b]
        exact e
      have ktl : KT H7 (upd (upd H7 L (.lst (vs ++ [.ref a7]))) p (.ins C dx (hF s.num .non L))) := fun q xs e => up q _ (ne_of e k1 (by intro z; cases z)) (ne_of e k3 (by intro z; cases z)) e
      have kt0 : KT H H7 := fun q xs e => s07 _ _ e
      refine q2 w3 hw hq _ (fun q u a b e => up q u a b (s07 _ _ e)) ⟨dx, .non, vs ++ [.ref a7], upd_same, up _ _ (ne_of h2 h1 (by intro z; cases z)) (ne_of h2 h3 (by intro z; cases z)) (s07 _ _ h2), by rw [upd_ne npL.symm, upd_same],
        pair_snoc (pair_imp h4 fun a b t => (t.up kt0).up ktl) (.tup (ktl _ _ e7) (TDs.app ((td.up kt0).up ktl) (.cons ((t1.up kt0).up ktl) (.cons ((t2.up kt0).up ktl) .nil)))), rfl⟩
end
end K5

set_option maxRecDepth 100000
set_option maxHeartbeats 4000000
/-! the law's calls -/
namespace K5
open PySem hiding Tok code
open PySem.Spec PyProof.Rows GD K1 GS
open L2 hiding rest
abbrev sAlike6 : Stmt := topS 24
abbrev sBegun : Stmt := topS 25
abbrev sBegins : Stmt := topS 26
abbrev sLaw61 : Stmt := topS 27
theorem op_inDT {X : Cx} (hu : X.A.units + 65 < cLine) : OpR X (compareOp .In) (fun x y H Q => ∃ d ds, Dp X.K H x d ∧ Dp X.K H y (.tuple ds) ∧ SeqAt.shaped d = true ∧ SeqAt.shaped (.tuple ds) = true ∧ Q (.bl (ds.any fun z => PyData.eqv z d)) H) := by
  intro pins s σ H x y v u Q I rx ry h
  obtain ⟨d, ds, hd, he, sd, se, q⟩ := h
  obtain ⟨as, r1⟩ := Dp.reads I d x v hd rx
  obtain ⟨bs, r2⟩ := Dp.reads I (.tuple ds) y u he ry
  exact SeqAt.in_tuple_reads r2 r1 (SeqAt.canLay_of_shaped se) (SeqAt.canLay_of_shaped sd) (room_in_shaped sd hu) ⟨.bl _, H, I, rfl, q⟩
theorem passes_len {X : Cx} {W : WX} {m : Nat} (tk : Takes X W) (hN : X.N.length = m) : ∀ (pins : List (Addr × Obj)) (σ : L2.St) (H : Hp) (s : Shared) (e : Value) (s' : Shared), Inv X pins σ H s →
    L2.CX X.prog X.w X.stack H s (fun cls d H => ∀ σ : L2.St, σ.length = m → W cls d σ H) e s' → X.xe e s' :=
  fun _ σ _ _ e s' I c => tk e s' (XE.of_call I (fun cls d H' h => h σ (I.len.trans hN)) c)
theorem call_isEd {X : Cx} {a D : Addr} {oe : Obj} {cls : Value} {d : Option Addr} {pn : List (Addr × Obj)} (C : ExcC X.K D) (hz : Zc cls d oe) (hf : ∃ vs, oe.data = .fields vs) :
    CallR (X.suite a ((a, oe) :: pn)) (.builtin "isinstance") (fun xs H Q => cls = .ref D ∧ d = none ∧ rIsE X.K D a xs H Q) := by
  rintro pins s σ H xs us Q I r ⟨ec, ed, h⟩
  subst ec
  subst ed
  exact call_isE C hz hf pins s σ H xs us Q I r h
structure TxE (K : PySem.W.Frag) (mg : Str → Option Value) (D PC CM : Addr) : Prop where
  gM : mg "ModuleError" = some (.ref CM)
  oo : PySem.W.exmOne K (.ref D) (.ref D) = some true
  po : PySem.W.exmOne K (.ref PC) (.ref D) = some false
  pm : PySem.W.exmOne K (.ref PC) (.ref CM) = some true
  ec : ExcC K PC
  ia : PySem.W.kitOne K (.ref PC) (.ref PC) = some true
section
variable {P : Program} {w : World} {K : PySem.W.Frag} {mg : Str → Option Value} {base : Heap} {D C PC CM fI PN PV : Addr}
def spAlike6 (K : PySem.W.Frag) : L2.Sp := fun vs H Q _ => ∃ (x y : V) (d : PyData), vs = [x, y] ∧ Dp K H x d ∧ Dp K H y d ∧ d ≠ .none ∧ d.showable = true ∧ d.hasDict = false ∧ d.depth ≤ 60 ∧ d.shown.length ≤ sizeLine ∧ Q (.bl true) H
theorem scAlike6 : FnScope ["one", "two"] ["one", "two"] (defScope sAlike6) := ⟨rfl, rfl, rfl, by decide +kernel, rfl, by decide +kernel, by decide +kernel⟩
theorem ok_alike6 {f : Addr} {fd : FuncData} (F : Fun K "_law_alike" "_law_alike" sAlike6 f fd) (T : Txt K mg) : FnG P w K mg base CX0 1 f fd ["one", "two"] (spAlike6 K) := by
  have sc := scAlike6
  refine okG F sc (fun vs H Q E h => ?_) (fun cdv A outer s H vs Q E hgd hr h => ?_)
  · obtain ⟨x, y, d, rfl, _⟩ := h
    rfl
  · obtain ⟨x, y, d, rfl, hx, hy, n, s1, s2, s3, s4, q⟩ := h
    refine ⟨_, (pss_one (ps_ret (pe_cmpR op_eq (pe_callB (cr_repr hgd hr.units) (by rfl) T.repr (by decide +kernel) (pa_cons (pv 0) pa_nil)) (pe_callB (cr_repr hgd hr.units) (by rfl) T.repr (by decide +kernel) (pa_cons (pv 1) pa_nil)) (nomark _)))), ?_⟩
    refine ⟨_, rfl, x, d, rfl, hx, n, s1, s2, s3, s4, _, rfl, y, d, rfl, hy, n, s1, s2, s3, s4, rfl, ?_⟩
    rw [decide_eq_true rfl]
    exact q
def spBegun (C D PN PV : Addr) : L2.Sp := fun vs H Q _ => ∃ (p L : Addr) (s : HoS) (m n : Str) (ar : Addr) (ad : List AV), vs = [.ref p, .str m, .str n, .ref ar] ∧ HA C H p L s ∧ m.length ≤ 5000 ∧ n.length ≤ 5000 ∧ H ar = some (.tup (ad.map aV)) ∧ T2 PN PV H ∧ (∀ x ∈ ad, aS x) ∧
  (s.wa ≠ none → ∀ H', Same H H' → Q (.str "atwork") H') ∧ (s.wa = none → (∀ z, chk m n ad = some z → ∀ H', ST PN PV H H' → Q (.str z) H') ∧
    (chk m n ad = none → ∀ H', SP PN PV p H H' → HA C H' p L ⟨s.num, s.an, some [.str m, .str n, .tuple (ad.map aD)]⟩ → Q (.int (s.an.length : Nat)) H'))
theorem scBegun : FnScope ["holder", "module", "name", "arguments", "e"] ["holder", "module", "name", "arguments"] (defScope sBegun) := ⟨rfl, rfl, rfl, by decide +kernel, rfl, by decide +kernel, by decide +kernel⟩
theorem ok_begun {f f1 : Addr} {fd fd1 : FuncData} (F : Fun K "_law_begun" "_law_begun" sBegun f fd) (T : Txt K mg) (T2 : Txt7 mg) (TH : TxH K mg C) (TO : TxO K mg D fI) (TP : TxP K mg "AtWork" PC) (TE : TxE K mg D PC CM)
    (BM : Meth K C "begin" f1) (BB : Binds K fd1 ["self", "module", "name", "arguments"] []) (BO : FnOk P w K mg base (L2.CX P w) 6 f1 fd1 ["self", "module", "name", "arguments"] (spBegin C D PC PN PV)) :
    FnOk P w K mg base CX0 7 f fd ["holder", "module", "name", "arguments"] (spBegun C D PN PV) := by
  have sc := scBegun
  refine F.ok sc (fun vs H Q E h => ?_) (fun cdv A outer s H vs Q E hr h => ?_)
  · obtain ⟨p, L, s, m, n, ar, ad, rfl, _⟩ := h
    rfl
  · obtain ⟨p, L, s, m, n, ar, ad, rfl, ha, hm, hn, har, t2, sm, q1, q2⟩ := h
    refine ⟨_, (pss_one (ps_tryA (tb := fun W => tRet (tMeth C "begin" (spBegin C D PC PN PV) [] (fun cls d H => ∀ σ : L2.St, σ.length = 5 → W cls d σ H) (tVar 0) (tCons (tVar 1) (tCons (tVar 2) (tCons (tVar 3) tNil))))) (Wout := fun _ _ _ _ => False) rfl rfl sc.nd takes0
        (fun W pn xe tk po => pss_one (ps_ret (pe_meth (E := fun cls d H => ∀ σ : L2.St, σ.length = 5 → W cls d σ H) (pv 0) TH.cl BM BO hr BB .nil (passes_len tk rfl) (pa_cons (pv 1) (pa_cons (pv 2) (pa_cons (pv 3) pa_nil))))))
        (Clauses.named (i := 4) ⟨rfl, by decide, .inl TO.g⟩ rfl rfl (fun a oe cls d pn zc hf => pss_one (ps_ret (pe_xf TO.xf TO.noName zc hf (pv 4))))
          (Clauses.named (i := 4) ⟨rfl, by decide, .inl TE.gM⟩ rfl rfl (fun a oe cls d pn zc hf => pss_one (ps_ret (pe_ix (show IxR _ (rIxL K) from ix_list) (pe_lst (pa_cons pe_str (pa_cons pe_str pa_nil)))
            (pe_callTy call_int1 (by rfl) T.bint (by decide +kernel) (pa_cons (pe_callB (call_isEd TE.ec zc hf) (by rfl) T2.isinstance (by decide +kernel) (pa_cons (pv 4) (pa_cons (pe_glob (v := .ref PC) rfl TP.g rfl) pa_nil))) pa_nil)) (fun _ _ => rfl)))) .nil)))), ?_⟩
    obtain ⟨dx, wv, vs, h1, _⟩ := ha.ex
    refine ⟨_, rfl, p, dx, _, rfl, h1, hF_no (by decide +kernel), _, rfl, _, rfl, _, rfl, p, L, s, m, n, ar, ad, rfl, ha, hm, hn, har, t2, sm, fun hw σ hσ => ?_, fun hw => ?_⟩
    · refine ⟨false, TE.po, fun z => Bool.noConfusion z, fun _ => ⟨true, TE.pm, fun _ a0 na => ?_, fun z => Bool.noConfusion z⟩⟩
      match σ, hσ with
      | [_, _, _, _, _], _ =>
        refine ⟨(by show 2 ≤ sizeLine; decide), fun l nl => ⟨_, rfl, rfl, rfl, .ref PC, .ref PC, true, rfl, fun u h => h, TE.ia, .inr ⟨true, rfl, l, _, _, .str "atwork", rfl, rfl, SqL.of upd_same, atI_nat (j := 1) rfl, q1 hw _ (Same.lst (Same.refl _) nl)⟩⟩⟩
    · obtain ⟨q3, q4⟩ := q2 hw
      refine ⟨fun z e H1 s1 d H2 s2 nd gd σ hσ => ⟨true, TE.oo, fun _ a0 na => ?_, fun z => Bool.noConfusion z⟩, q4⟩
      match σ, hσ with
      | [_, _, _, _, _], _ => exact ⟨_, rfl, rfl, rfl, d, _, _, rfl, gd, rfl, q3 z e _ (s1.trans (s1.t.st s2))⟩
end
end K5

set_option maxRecDepth 100000
set_option maxHeartbeats 8000000
/-! a call begun, as the law draws it -/
namespace K5
open PySem hiding Tok code
open PySem.Spec PyProof.Rows GD K1 GS
open L2 hiding rest
theorem rep_cat (c : Nat) : ∀ (n : Nat) (acc : Array Nat), (List.replicate n #[c]).foldl (· ++ ·) acc = acc ++ (List.replicate n c).toArray
  | 0, acc => by simp
  | n + 1, acc => by
    rw [List.replicate_succ, List.foldl_cons, rep_cat c n, Array.append_assoc, List.replicate_succ]
    congr 1
    simp
/-- one sign, so and so often -/
theorem op_rep_one {X : Cx} : OpR X (binaryOp .Mult) (fun x y H Q => ∃ (c n : Nat), x = .str ⟨#[c]⟩ ∧ y = .int ((n : Nat) : Int) ∧ 1 ≤ n ∧ n ≤ 5000 ∧ Q (.str (S (List.replicate n c))) H) := by
  intro pins s σ H x y v u Q I rx ry h
  obtain ⟨c, n, rfl, rfl, h1, h2, q⟩ := h
  obtain ⟨t, rfl⟩ := rx
  obtain ⟨t', rfl⟩ := ry
  have l1 : (⟨#[c]⟩ : Str).length = 1 := rfl
  refine PySem.P.mul_str ?_ (fun _ _ => ?_) (fun _ _ => ?_) ?_
  · rw [decide_eq_false (by omega), decide_eq_false (by omega)]
    rfl
  · rw [l1]
    have : (1 : Int) ≤ (2 ^ 63 - 1) / ((n : Nat) : Int) := (Int.le_ediv_iff_mul_le (by omega)).mpr (by omega)
    omega
  · rw [l1, Nat.one_mul, Int.toNat_natCast]
    unfold Builtin.Str.tooLong
    exact decide_eq_false (by have := szle h2; omega)
  · rw [if_neg (by omega)]
    by_cases e : n = 1
    · subst e
      rw [if_pos (by rfl)]
      exact ⟨.str _, H, I.tok _, ⟨_, rfl⟩, q⟩
    · have e2 : (((n : Nat) : Int) == 1 || (⟨#[c]⟩ : Str).length == 0) = false := by
        rw [l1, show (((n : Nat) : Int) == 1) = false from beq_eq_false_iff_ne.mpr (by omega)]
        rfl
      rw [e2, if_neg Bool.false_ne_true, Int.toNat_natCast]
      have e3 : (⟨(List.replicate n (⟨#[c]⟩ : Str).cps).foldl (· ++ ·) #[]⟩ : Str) = S (List.replicate n c) := by
        rw [show (⟨#[c]⟩ : Str).cps = #[c] from rfl, rep_cat]
        unfold S
        congr 1
        simp
      rw [e3]
      exact ⟨by rw [S_len, List.length_replicate]; exact szle h2, ⟨.str _, H, I.tok _, ⟨_, rfl⟩, q⟩⟩
theorem gn {i : Nat} {v : V} {σ : L2.St} {H : Hp} {Q : L2.St → Hp → Prop} (h : Q (σ.set i (some v)) H) : gName i v σ H Q := h
theorem nxp {u b c : L2.St → Hp → Prop} {r : VK} {σ : L2.St} {H : Hp} (h : u σ H) : (⟨u, r, b, c⟩ : Ends).nx σ H := h
theorem seq_mid {A B : TS} {D : Ends} {σ : L2.St} {H : Hp} (M : L2.St → Hp → Prop) (h2 : ∀ σ' H', M σ' H' → B D σ' H') (h1 : (∀ σ' H', M σ' H' → B D σ' H') → tSeq A B D σ H) : tSeq A B D σ H := h1 h2
theorem Bsame {b d : Addr} {dg : List Int} {H H1 H2 : Hp} {n : Nat} (h : Bs b d dg H H1 n) (s : Same H1 H2) : Bs b d dg H H2 n :=
  ⟨h.bx.trans (Bx.same s), ⟨s _ _ h.box.1, s _ _ h.box.2.1, h.box.2.2⟩, fun c z => h.free c (sfree s z)⟩
theorem Fit.shaped {d : PyData} {k B : Nat} (f : Fit d k B) (h : k ≤ 64) : SeqAt.shaped d = true := by
  unfold SeqAt.shaped
  rw [f.cl, decide_eq_true (Nat.le_trans f.dp h)]
  rfl
def x21 : Str := ⟨(List.replicate 21 120).toArray⟩
def adA : Nat → List AV
  | 0 => []
  | 1 => [.i 1]
  | 2 => [.s "s", .i (-99999), .i 0]
  | 3 => [.i 1, .i 2, .i 3, .i 4]
  | 4 => [.i 100000]
  | _ => [.s x21]
def MS : List Str := ["a", "abcdef", "let", ""]
def NS : List Str := ["f", "x", "A"]
theorem nameM : ∀ m ∈ MS, nameB m = !(inV (.str m) [.str "let", .str ""]) := by decide +kernel
theorem nameN : ∀ n ∈ NS, nameB n = !(decide (n = "A")) := by decide +kernel
def inB (j : Nat) : Bool := [PyData.tuple [.int 100000], .tuple [.str x21]].any fun z => PyData.eqv z (.tuple ((adA j).map aD))
theorem argsA : ∀ j < 6, argsB (adA j) = !(decide ((adA j).length = 4) || inB j) := by decide +kernel
/-- what the law has noted of the call that waits -/
def WL (H : Hp) : List V → Option (List PyData) → Prop
  | vw, none => vw = []
  | vw, some w3 => ∃ t x3, vw = [.ref t] ∧ H t = some (.tup x3) ∧ TDs H x3 w3 ∧ w3.length = 3
theorem WL.up {H H' : Hp} (k : KT H H') : ∀ {vw : List V} {o : Option (List PyData)}, WL H vw o → WL H' vw o
  | _, none, h => h
  | _, some _, ⟨t, x3, e, h1, h2, l⟩ => ⟨t, x3, e, k _ _ h1, h2.up k, l⟩
def FW (o : Option (List PyData)) : Prop := ∀ w3, o = some w3 → ∀ d ∈ w3, Fit d 1 700
/-- the law's heap: the holder, the box, what is done, what waits -/
structure LH (C PN PV : Addr) (H : Hp) (p L b d : Addr) (dg : List Int) (n : Nat) (dn wl : Addr) (vd vw : List V) (sh s : HoS) : Prop where
  ha : HA C H p L sh
  t2 : T2 PN PV H
  box : Box H b d dg n
  ed : H dn = some (.lst vd)
  ew : H wl = some (.lst vw)
  pd : Paired (TD H) vd s.an
  pw : WL H vw s.wa
  fw : FW s.wa
  n1 : L ≠ b
  n2 : L ≠ dn
  n3 : L ≠ wl
  n4 : dn ≠ b
  n5 : wl ≠ b
  n6 : wl ≠ dn
  n7 : L ≠ d
  n8 : dn ≠ d
  n9 : wl ≠ d
section
variable {C PN PV : Addr} {H H' : Hp} {p L b d dn wl : Addr} {dg : List Int} {n n' : Nat} {vd vw : List V} {sh s : HoS}
/-- all that is not a table stays, but for b's list -/
theorem LH.bs (x : LH C PN PV H p L b d dg n dn wl vd vw sh s) (v : Bs b d dg H H' n') : LH C PN PV H' p L b d dg n' dn wl vd vw sh s := by
  have k : ∀ q o, q ≠ b → H q = some o → H' q = some o := v.bx
  have kt : KT H H' := fun q xs e => k q _ (ne_of e x.box.1 (by intro z; cases z)) e
  have tb : ∀ P, GxR.TabG H P → GxR.TabG H' P := fun P ⟨ps, e, r⟩ => ⟨ps, k _ _ (ne_of e x.box.1 (by intro z; cases z)) e, r⟩
  exact ⟨x.ha.up fun q o _ h e => k q o (fun z => by
      rcases h with h | h
      · exact x.n1 (h ▸ z)
      · rw [z, x.box.1] at e
        injection e with e
        exact h _ e.symm) e, ⟨tb _ x.t2.n, tb _ x.t2.v⟩, v.box, k _ _ x.n4 x.ed, k _ _ x.n5 x.ew, pair_imp x.pd fun a b t => t.up kt, x.pw.up kt, x.fw, x.n1, x.n2, x.n3, x.n4, x.n5, x.n6, x.n7, x.n8, x.n9⟩
theorem LH.st (x : LH C PN PV H p L b d dg n dn wl vd vw sh s) (v : ST PN PV H H') : LH C PN PV H' p L b d dg n dn wl vd vw sh s := by
  have kt : KT H H' := fun q xs e => v.k q _ (fun _ z => by cases z) e
  have kl : ∀ q xs, H q = some (.lst xs) → H' q = some (.lst xs) := fun q xs e => v.k q _ (fun _ z => by cases z) e
  exact ⟨x.ha.up fun q o n _ e => v.k q o n e, v.t, ⟨kl _ _ x.box.1, kl _ _ x.box.2.1, x.box.2.2⟩, kl _ _ x.ed, kl _ _ x.ew, pair_imp x.pd fun a b t => t.up kt, x.pw.up kt, x.fw, x.n1, x.n2, x.n3, x.n4, x.n5, x.n6, x.n7, x.n8, x.n9⟩
theorem LH.sp (x : LH C PN PV H p L b d dg n dn wl vd vw sh s) {sh' : HoS} (v : SP PN PV p H H') (ha : HA C H' p L sh') : LH C PN PV H' p L b d dg n dn wl vd vw sh' s := by
  obtain ⟨dx, wv, vs, h1, _⟩ := x.ha.ex
  have kt : KT H H' := fun q xs e => v.2 q _ (fun _ z => by cases z) (ne_of e h1 (by intro z; cases z)) e
  have kl : ∀ q xs, H q = some (.lst xs) → H' q = some (.lst xs) := fun q xs e => v.2 q _ (fun _ z => by cases z) (ne_of e h1 (by intro z; cases z)) e
  exact ⟨ha, v.1, ⟨kl _ _ x.box.1, kl _ _ x.box.2.1, x.box.2.2⟩, kl _ _ x.ed, kl _ _ x.ew, pair_imp x.pd fun a b t => t.up kt, x.pw.up kt, x.fw, x.n1, x.n2, x.n3, x.n4, x.n5, x.n6, x.n7, x.n8, x.n9⟩
theorem LH.wrw (x : LH C PN PV H p L b d dg n dn wl vd vw sh s) {vw' : List V} {s' : HoS} (han : s'.an = s.an) (pw : WL (upd H wl (.lst vw')) vw' s'.wa) (fw : FW s'.wa) : LH C PN PV (upd H wl (.lst vw')) p L b d dg n dn wl vd vw' sh s' := by
  have k : ∀ q o, q ≠ wl → H q = some o → upd H wl (.lst vw') q = some o := fun q o a e => by rw [upd_ne a]; exact e
  have kt : KT H (upd H wl (.lst vw')) := fun q xs e => k q _ (ne_of e x.ew (by intro z; cases z)) e
  exact ⟨x.ha.up fun q o _ h e => k q o (fun z => by
      rcases h with h | h
      · exact x.n3 (h ▸ z)
      · rw [z, x.ew] at e
        injection e with e
        exact h _ e.symm) e, ⟨tab_wr x.t2.n x.ew (fun _ z => by cases z), tab_wr x.t2.v x.ew (fun _ z => by cases z)⟩, ⟨k _ _ x.n5.symm x.box.1, k _ _ x.n9.symm x.box.2.1, x.box.2.2⟩, k _ _ x.n6.symm x.ed, upd_same, by rw [han]; exact pair_imp x.pd fun a b t => t.up kt, pw, fw, x.n1, x.n2, x.n3, x.n4, x.n5, x.n6, x.n7, x.n8, x.n9⟩
theorem LH.sm (x : LH C PN PV H p L b d dg n dn wl vd vw sh s) (v : Same H H') : LH C PN PV H' p L b d dg n dn wl vd vw sh s := x.st (x.t2.st v)
end
theorem smA : ∀ j < 6, ∀ x ∈ adA j, aS x := by
  intro j hj
  match j, hj with
  | 0, _ => intro x hx; cases hx
  | 1, _ => intro x hx; simp only [adA, List.mem_cons, List.not_mem_nil, or_false] at hx; subst hx; trivial
  | 2, _ =>
    intro x hx
    simp only [adA, List.mem_cons, List.not_mem_nil, or_false] at hx
    rcases hx with rfl | rfl | rfl
    · show (1 : Nat) ≤ 5000; decide
    · trivial
    · trivial
  | 3, _ =>
    intro x hx
    simp only [adA, List.mem_cons, List.not_mem_nil, or_false] at hx
    rcases hx with rfl | rfl | rfl | rfl <;> trivial
  | 4, _ => intro x hx; simp only [adA, List.mem_cons, List.not_mem_nil, or_false] at hx; subst hx; trivial
  | 5, _ => intro x hx; simp only [adA, List.mem_cons, List.not_mem_nil, or_false] at hx; subst hx; show (21 : Nat) ≤ 5000; decide
/-- what is due for a call -/
def dueV (m n : Str) (ad : List AV) (k : Nat) : V := match chk m n ad with
  | none => .int (k : Nat)
  | some z => .str z
def d1V (ad : List AV) (k : Nat) : V := if argsB ad = false then .str "arguments" else .int (k : Nat)
def d2V (n : Str) (ad : List AV) (k : Nat) : V := if n = "A" then .str "name" else d1V ad k
theorem due_eq {m n : Str} {ad : List AV} {k : Nat} (hm : m ∈ MS) (hn : n ∈ NS) : (if inV (.str m) [.str "let", .str ""] = true then V.str "module" else d2V n ad k) = dueV m n ad k := by
  unfold dueV chk d2V d1V
  rw [nameM m hm, nameN n hn]
  cases inV (.str m) [.str "let", .str ""] with
  | true => rfl
  | false =>
    by_cases e : n = "A"
    · rw [if_pos e, decide_eq_true e]
      rfl
    · rw [if_neg e, decide_eq_false e]
      cases argsB ad <;> rfl
theorem adSh : ∀ j < 6, SeqAt.shaped (.tuple ((adA j).map aD)) = true := by decide +kernel
theorem inSh : SeqAt.shaped (.tuple [.tuple [.int 100000], .tuple [.str x21]]) = true := by decide +kernel
theorem adFit : ∀ j < 6, argsB (adA j) = true → Fit (.tuple ((adA j).map aD)) 1 700 := by
  intro j hj ha
  have s1 : Fit (.str "s") 0 62 := (Fit.str (z := "s") (n := 6) (by decide) (by decide +kernel))
  match j, hj, ha with
  | 0, _, _ => exact (Fit.tup (k := 0) (B := 0) (ds := []) (fun d hd => by cases hd)).more (Nat.le_refl _) (by decide)
  | 1, _, _ => exact (Fit.tup (k := 0) (B := 62) (ds := [.int 1]) (fun d hd => by
      rw [List.mem_singleton.mp hd]
      exact (Fit.num (n := 1) (by decide)).more (Nat.le_refl _) (by decide))).more (Nat.le_refl _) (by decide)
  | 2, _, _ => exact (Fit.tup (k := 0) (B := 62) (ds := [.str "s", .int (-99999), .int 0]) (fun d hd => by
      simp only [List.mem_cons, List.not_mem_nil, or_false] at hd
      rcases hd with rfl | rfl | rfl
      · exact s1
      · exact ⟨rfl, rfl, by decide, by decide +kernel, rfl⟩
      · exact (Fit.num (n := 0) (by decide)).more (Nat.le_refl _) (by decide))).more (Nat.le_refl _) (by decide)
  | 3, _, h => exact absurd h (by decide +kernel)
  | 4, _, h => exact absurd h (by decide +kernel)
  | 5, _, h => exact absurd h (by decide +kernel)
theorem msFit : ∀ m ∈ MS, Fit (.str m) 0 62 := by
  intro m hm
  simp only [MS, List.mem_cons, List.not_mem_nil, or_false] at hm
  rcases hm with rfl | rfl | rfl | rfl <;> exact Fit.str (n := 6) (by decide) (by decide +kernel)
theorem nsFit : ∀ m ∈ NS, Fit (.str m) 0 62 := by
  intro m hm
  simp only [NS, List.mem_cons, List.not_mem_nil, or_false] at hm
  rcases hm with rfl | rfl | rfl <;> exact Fit.str (n := 6) (by decide) (by decide +kernel)
theorem szBig {n : Nat} (h : n ≤ 800000) : n ≤ sizeLine := Nat.le_trans h (by decide)
def shOf (m n : Str) (ad : List AV) (s : HoS) : HoS := match chk m n ad with
  | none => ⟨s.num, s.an, some [.str m, .str n, .tuple (ad.map aD)]⟩
  | some _ => s
theorem chk_fit {m n : Str} {ad : List AV} {z : Str} (h : chk m n ad = some z) : Fit (.str z) 0 102 := by
  unfold chk at h
  split at h
  · cases h; exact Fit.str (n := 10) (by decide) (by decide +kernel)
  · split at h
    · cases h; exact Fit.str (n := 10) (by decide) (by decide +kernel)
    · split at h
      · cases h; exact Fit.str (n := 10) (by decide) (by decide +kernel)
      · cases h
theorem chk_args {m n : Str} {ad : List AV} (h : chk m n ad = none) : argsB ad = true := by
  unfold chk at h
  split at h
  · cases h
  · split at h
    · cases h
    · split at h
      · cases h
      · rename_i h3
        cases e : argsB ad
        · exact absurd e h3
        · rfl
section
variable {P : Program} {w : World} {K : PySem.W.Frag} {mg : Str → Option Value} {base : Heap} {D C PC CM fI PN PV : Addr}
def spBegins (C PN PV : Addr) : L2.Sp := fun vs H Q _ => ∃ (p L b d dn wl : Addr) (dg : List Int) (n : Nat) (vd vw : List V) (s : HoS) (nv : V), vs = [.ref b, .ref p, nv, .ref dn, .ref wl] ∧ LH C PN PV H p L b d dg n dn wl vd vw s s ∧ vd.length ≤ 1000 ∧
  ∀ H' n' vw' s', LH C PN PV H' p L b d dg n' dn wl vd vw' s' s' → s'.num = s.num → s'.an = s.an → Q (.bl true) H'
theorem scBegins : FnScope ["box", "holder", "number", "done", "waiting", "module", "name", "arguments", "told", "due"] ["box", "holder", "number", "done", "waiting"] (defScope sBegins) := ⟨rfl, rfl, rfl, by decide +kernel, rfl, by decide +kernel, by decide +kernel⟩
theorem ok_begins {f f1 f2 fa : Addr} {fd fd1 fd2 fda : FuncData} (F : Fun K "_law_begins" "_law_begins" sBegins f fd) (T : Txt K mg)
    (GD : FO P w K mg base CX0 1 "_law_draw" ["box", "many"] spDraw f1 fd1) (GB : FO P w K mg base CX0 7 "_law_begun" ["holder", "module", "name", "arguments"] (spBegun C D PN PV) f2 fd2)
    (FA : FnG P w K mg base CX0 1 fa fda ["one", "two"] (spAlike6 K)) (ma : mg "_law_alike" = some (.ref fa)) (ka : PySem.W.keepIn K (.ref fa) = true) (ba : Binds K fda ["one", "two"] []) :
    FnG P w K mg base CX0 8 f fd ["box", "holder", "number", "done", "waiting"] (spBegins C PN PV) := by
  have sc := scBegins
  refine okG F sc (fun vs H Q E h => ?_) (fun cdv A outer sh H vs Q E hgd hr h => ?_)
  · obtain ⟨p, L, b, d, dn, wl, dg, n, vd, vw, s, nv, rfl, _⟩ := h
    rfl
  · obtain ⟨p, L, b, d, dn, wl, dg, n, vd, vw, s, nv, rfl, x, lvd, q⟩ := h
    have hr1 : Room 1 _ := hr.mono (by decide)
    have hu65 : (A.deeper (envOfC "_law_begins" (defScope sBegins) sh.heap.objs.size f cdv)).units + 65 < cLine := by have := hr.un; omega
    refine ⟨_, (pss_cons (ps_set (i := 5) sc.nd rfl (Or.inl rfl) (pe_ix ix_list (pe_lst (pa_cons pe_str (pa_cons pe_str (pa_cons pe_str (pa_cons pe_str pa_nil))))) (pe_ix ix_list (pe_lst (pa_cons pe_int (pa_cons pe_int (pa_cons pe_int (pa_cons pe_int (pa_cons pe_int (pa_cons pe_int pa_nil))))))) (pe_call GD.ok hr1 (by rfl) GD.m GD.kp GD.b .nil pass0 (pa_cons (pv 0) (pa_cons pe_int pa_nil))) (fun _ _ => rfl)) (fun _ _ => rfl)))
      (pss_cons (ps_set (i := 6) sc.nd rfl (Or.inl rfl) (pe_ix ix_list (pe_lst (pa_cons pe_str (pa_cons pe_str (pa_cons pe_str pa_nil)))) (pe_ix ix_list (pe_lst (pa_cons pe_int (pa_cons pe_int (pa_cons pe_int (pa_cons pe_int (pa_cons pe_int pa_nil)))))) (pe_call GD.ok hr1 (by rfl) GD.m GD.kp GD.b .nil pass0 (pa_cons (pv 0) (pa_cons pe_int pa_nil))) (fun _ _ => rfl)) (fun _ _ => rfl)))
      (pss_cons (ps_set (i := 7) sc.nd rfl (Or.inl rfl) (pe_ix ix_list (pe_lst (pa_cons (pe_tup pa_nil) (pa_cons (pe_tup (pa_cons pe_int pa_nil)) (pa_cons (pe_tup (pa_cons pe_str (pa_cons (pe_un un_neg pe_int) (pa_cons pe_int pa_nil)))) (pa_cons (pe_tup (pa_cons pe_int (pa_cons pe_int (pa_cons pe_int (pa_cons pe_int pa_nil))))) (pa_cons (pe_tup (pa_cons pe_int pa_nil)) (pa_cons (pe_tup (pa_cons (pe_op op_rep_one pe_str pe_int) pa_nil)) pa_nil))))))) (pe_call GD.ok hr1 (by rfl) GD.m GD.kp GD.b .nil pass0 (pa_cons (pv 0) (pa_cons pe_int pa_nil))) (fun _ _ => rfl)))
      (pss_cons (ps_set (i := 8) sc.nd rfl (Or.inl rfl) (pe_call GB.ok hr (by rfl) GB.m GB.kp GB.b .nil pass0 (pa_cons (pv 1) (pa_cons (pv 5) (pa_cons (pv 6) (pa_cons (pv 7) pa_nil))))))
      (pss_cons (ps_if (pt_cmpR (op_neD hr.units) (pv 4) (pe_lst pa_nil) (nomark _))
      (pss_one (ps_ret (pe_cmpR op_eq (pv 8) pe_str (nomark _))))
      pss_nil)
      (pss_cons (ps_set (i := 9) sc.nd rfl (Or.inl rfl) (pe_callB call_len_seq (by rfl) T.len (by decide +kernel) (pa_cons (pv 3) pa_nil)))
      (pss_cons (ps_if (PW.pt (pw_or (pt_cmpR op_eq (pe_callB call_len_seq (by rfl) T.len (by decide +kernel) (pa_cons (pv 7) pa_nil)) pe_int (nomark _)) (pw_or1 (pt_cmpR (op_inDT hu65) (pv 7) (pe_tup (pa_cons (pe_tup (pa_cons pe_int pa_nil)) (pa_cons (pe_tup (pa_cons (pe_op op_rep_one pe_str pe_int) pa_nil)) pa_nil))) rfl))))
      (pss_one (ps_set (i := 9) sc.nd rfl (Or.inl rfl) pe_str))
      pss_nil)
      (pss_cons (ps_if (pt_cmpR op_eq (pv 6) pe_str (nomark _))
      (pss_one (ps_set (i := 9) sc.nd rfl (Or.inl rfl) pe_str))
      pss_nil)
      (pss_cons (ps_if (pt_cmpR op_in_seq (pv 5) (pe_tup (pa_cons pe_str (pa_cons pe_str pa_nil))) rfl)
      (pss_one (ps_set (i := 9) sc.nd rfl (Or.inl rfl) pe_str))
      pss_nil)
      (pss_cons (ps_if (pt_cmpR op_eq (pv 9) (pe_callB call_len_seq (by rfl) T.len (by decide +kernel) (pa_cons (pv 3) pa_nil)) (nomark _))
      (pss_one (ps_expr (pe_bm PySem.F.plainAttrs_list PySem.F.slot_list_append PySem.F.type_list_append mt_append (pv 4) (pa_cons (pe_tup (pa_cons (pv 5) (pa_cons (pv 6) (pa_cons (pv 7) pa_nil)))) pa_nil))))
      pss_nil)
      (pss_one (ps_ret (pe_callG FA hgd hr1 (by rfl) ma ka ba .nil pass0 (pa_cons (pv 8) (pa_cons (pv 9) pa_nil))))))))))))))), ?_⟩
    have v0 := Bs.refl x.box
    refine ⟨(by show 4 ≤ sizeLine; decide), fun l1 nl1 => ⟨(by show 6 ≤ sizeLine; decide), fun l2 nl2 => ?_⟩⟩
    have v1 := v0.new (o := .lst [.str "a", .str "abcdef", .str "let", .str ""]) nl1
    have v2 := v1.new (o := .lst [.int 0, .int 0, .int 1, .int 1, .int 2, .int 3]) nl2
    have n1b := v0.nb nl1
    have n2b := v1.nb nl2
    have n12 : l1 ≠ l2 := ne_of_none upd_same nl2
    refine ⟨_, rfl, b, d, dg, n, 6, rfl, v2.box, by decide, fun r r0 r1 => ?_⟩
    have v3 := v2.draw
    obtain ⟨j, rfl, hj⟩ := idx (m := 6) r0 r1
    obtain ⟨k, hk4, hk⟩ : ∃ k, k < 4 ∧ [V.int 0, .int 0, .int 1, .int 1, .int 2, .int 3][j]? = some (.int (k : Nat)) := by
      match j, hj with
      | 0, _ => exact ⟨0, by decide, rfl⟩
      | 1, _ => exact ⟨0, by decide, rfl⟩
      | 2, _ => exact ⟨1, by decide, rfl⟩
      | 3, _ => exact ⟨1, by decide, rfl⟩
      | 4, _ => exact ⟨2, by decide, rfl⟩
      | 5, _ => exact ⟨3, by decide, rfl⟩
    obtain ⟨m, hm, hmM⟩ : ∃ m : Str, [V.str "a", .str "abcdef", .str "let", .str ""][k]? = some (.str m) ∧ m ∈ MS := by
      match k, hk4 with
      | 0, _ => exact ⟨_, rfl, by simp [MS]⟩
      | 1, _ => exact ⟨_, rfl, by simp [MS]⟩
      | 2, _ => exact ⟨_, rfl, by simp [MS]⟩
      | 3, _ => exact ⟨_, rfl, by simp [MS]⟩
    refine ⟨l2, _, _, _, rfl, rfl, SqL.of (by rw [upd_ne n2b]; exact upd_same), atI_nat hk, l1, _, _, _, rfl, rfl, SqL.of (by rw [upd_ne n1b, upd_ne n12]; exact upd_same), atI_nat hm, ?_⟩
    have x3 := x.bs v3
    generalize (upd (upd (upd H l1 (.lst [.str "a", .str "abcdef", .str "let", .str ""])) l2 (.lst [.int 0, .int 0, .int 1, .int 1, .int 2, .int 3])) b (.lst [.ref d, .int ((n + 1 : Nat) : Int)])) = H3 at *
    clear hk hm n12
    have v0 := Bs.refl x3.box
    refine ⟨(by show 3 ≤ sizeLine; decide), fun l1 nl1 => ⟨(by show 5 ≤ sizeLine; decide), fun l2 nl2 => ?_⟩⟩
    have v1 := v0.new (o := .lst [.str "f", .str "x", .str "A"]) nl1
    have v2 := v1.new (o := .lst [.int 0, .int 0, .int 1, .int 1, .int 2]) nl2
    have n1b := v0.nb nl1
    have n2b := v1.nb nl2
    have n12 : l1 ≠ l2 := ne_of_none upd_same nl2
    refine ⟨_, rfl, b, d, dg, _, 5, rfl, v2.box, by decide, fun r r0 r1 => ?_⟩
    have v3 := v2.draw
    obtain ⟨j, rfl, hj⟩ := idx (m := 5) r0 r1
    obtain ⟨k, hk4, hk⟩ : ∃ k, k < 3 ∧ [V.int 0, .int 0, .int 1, .int 1, .int 2][j]? = some (.int (k : Nat)) := by
      match j, hj with
      | 0, _ => exact ⟨0, by decide, rfl⟩
      | 1, _ => exact ⟨0, by decide, rfl⟩
      | 2, _ => exact ⟨1, by decide, rfl⟩
      | 3, _ => exact ⟨1, by decide, rfl⟩
      | 4, _ => exact ⟨2, by decide, rfl⟩
    obtain ⟨nm, hn, hnN⟩ : ∃ m : Str, [V.str "f", .str "x", .str "A"][k]? = some (.str m) ∧ m ∈ NS := by
      match k, hk4 with
      | 0, _ => exact ⟨_, rfl, by simp [NS]⟩
      | 1, _ => exact ⟨_, rfl, by simp [NS]⟩
      | 2, _ => exact ⟨_, rfl, by simp [NS]⟩
    refine ⟨l2, _, _, _, rfl, rfl, SqL.of (by rw [upd_ne n2b]; exact upd_same), atI_nat hk, l1, _, _, _, rfl, rfl, SqL.of (by rw [upd_ne n1b, upd_ne n12]; exact upd_same), atI_nat hn, ?_⟩
    have x4 := x3.bs v3
    generalize (upd (upd (upd H3 l1 (.lst [.str "f", .str "x", .str "A"])) l2 (.lst [.int 0, .int 0, .int 1, .int 1, .int 2])) b (.lst [.ref d, .int ((n + 1 + 1 : Nat) : Int)])) = H4 at *
    clear hk hn n12
    refine ⟨(by show 0 ≤ sizeLine; decide), fun a0 m0 => ?_⟩
    have s0 : Same H4 (upd H4 a0 (.tup [])) := snew (Same.refl _) m0
    have e0 : upd H4 a0 (.tup []) a0 = some (.tup ((adA 0).map aV)) := upd_same
    generalize upd H4 a0 (.tup []) = G0 at *
    refine ⟨(by show 1 ≤ sizeLine; decide), fun a1 m1 => ?_⟩
    have s1 : Same G0 (upd G0 a1 (.tup [.int 1])) := snew (Same.refl _) m1
    have e1 : upd G0 a1 (.tup [.int 1]) a1 = some (.tup ((adA 1).map aV)) := upd_same
    generalize upd G0 a1 (.tup [.int 1]) = G1 at *
    refine ⟨_, rfl, (by show 3 ≤ sizeLine; decide), fun a2 m2 => ?_⟩
    have s2 : Same G1 (upd G1 a2 (.tup [.str "s", .int (-99999), .int 0])) := snew (Same.refl _) m2
    have e2 : upd G1 a2 (.tup [.str "s", .int (-99999), .int 0]) a2 = some (.tup ((adA 2).map aV)) := upd_same
    generalize upd G1 a2 (.tup [.str "s", .int (-99999), .int 0]) = G2 at *
    refine ⟨(by show 4 ≤ sizeLine; decide), fun a3 m3 => ?_⟩
    have s3 : Same G2 (upd G2 a3 (.tup [.int 1, .int 2, .int 3, .int 4])) := snew (Same.refl _) m3
    have e3 : upd G2 a3 (.tup [.int 1, .int 2, .int 3, .int 4]) a3 = some (.tup ((adA 3).map aV)) := upd_same
    generalize upd G2 a3 (.tup [.int 1, .int 2, .int 3, .int 4]) = G3 at *
    refine ⟨(by show 1 ≤ sizeLine; decide), fun a4 m4 => ?_⟩
    have s4 : Same G3 (upd G3 a4 (.tup [.int 100000])) := snew (Same.refl _) m4
    have e4 : upd G3 a4 (.tup [.int 100000]) a4 = some (.tup ((adA 4).map aV)) := upd_same
    generalize upd G3 a4 (.tup [.int 100000]) = G4 at *
    refine ⟨120, 21, rfl, rfl, by decide, by decide, (by show 1 ≤ sizeLine; decide), fun a5 m5 => ?_⟩
    have s5 : Same G4 (upd G4 a5 (.tup [.str (S (List.replicate 21 120))])) := snew (Same.refl _) m5
    have e5 : upd G4 a5 (.tup [.str (S (List.replicate 21 120))]) a5 = some (.tup ((adA 5).map aV)) := upd_same
    refine ⟨(by show 6 ≤ sizeLine; decide), fun la nla => ?_⟩
    generalize upd G4 a5 (.tup [.str (S (List.replicate 21 120))]) = G5 at *
    have s6 : Same G5 (upd G5 la (.lst [.ref a0, .ref a1, .ref a2, .ref a3, .ref a4, .ref a5])) := snew (Same.refl _) nla
    have e6 : upd G5 la (.lst [.ref a0, .ref a1, .ref a2, .ref a3, .ref a4, .ref a5]) la = some (.lst [.ref a0, .ref a1, .ref a2, .ref a3, .ref a4, .ref a5]) := upd_same
    have x5 := x4.sm (strans s0 (strans s1 (strans s2 (strans s3 (strans s4 (strans s5 s6))))))
    have nlab : la ≠ b := fun y => by
      have := (x4.sm (strans s0 (strans s1 (strans s2 (strans s3 (strans s4 s5)))))).box.1
      rw [← y, nla] at this
      cases this
    generalize upd G5 la (.lst [.ref a0, .ref a1, .ref a2, .ref a3, .ref a4, .ref a5]) = G6 at *
    refine ⟨_, rfl, b, d, dg, _, 6, rfl, x5.box, by decide, fun r r0 r1 => ?_⟩
    obtain ⟨j, rfl, hj⟩ := idx (m := 6) r0 r1
    obtain ⟨ar, har, ear⟩ : ∃ ar, [V.ref a0, .ref a1, .ref a2, .ref a3, .ref a4, .ref a5][j]? = some (.ref ar) ∧ G6 ar = some (.tup ((adA j).map aV)) := by
      match j, hj with
      | 0, _ => exact ⟨a0, rfl, s6 _ _ (s5 _ _ (s4 _ _ (s3 _ _ (s2 _ _ (s1 _ _ e0)))))⟩
      | 1, _ => exact ⟨a1, rfl, s6 _ _ (s5 _ _ (s4 _ _ (s3 _ _ (s2 _ _ e1))))⟩
      | 2, _ => exact ⟨a2, rfl, s6 _ _ (s5 _ _ (s4 _ _ (s3 _ _ e2)))⟩
      | 3, _ => exact ⟨a3, rfl, s6 _ _ (s5 _ _ (s4 _ _ e3))⟩
      | 4, _ => exact ⟨a4, rfl, s6 _ _ (s5 _ _ e4)⟩
      | 5, _ => exact ⟨a5, rfl, s6 _ _ e5⟩
    have x6 := x5.bs (Bs.refl x5.box).draw
    have ear6 : upd G6 b (.lst [.ref d, .int ((n + 1 + 1 + 1 : Nat) : Int)]) ar = some (.tup ((adA j).map aV)) := by rw [upd_ne (ne_of ear x5.box.1 (by intro z; cases z))]; exact ear
    refine ⟨la, _, _, _, rfl, rfl, SqL.of (by rw [upd_ne nlab]; exact e6), atI_nat har, ?_⟩
    generalize upd G6 b (.lst [.ref d, .int ((n + 1 + 1 + 1 : Nat) : Int)]) = H6 at *
    have lm : m.length ≤ 5000 := by
      simp only [MS, List.mem_cons, List.not_mem_nil, or_false] at hmM
      rcases hmM with rfl | rfl | rfl | rfl <;> decide
    have ln : nm.length ≤ 5000 := by
      simp only [NS, List.mem_cons, List.not_mem_nil, or_false] at hnN
      rcases hnN with rfl | rfl | rfl <;> decide
    refine gn ?_
    refine nxp ?_
    refine seq_mid (A := tAsg _ _) (fun σ' H' => ∃ (n5 : Nat) (shh : HoS) (tv : V), σ' = [some (.ref b), some (.ref p), some nv, some (.ref dn), some (.ref wl), some (.str m), some (.str nm), some (.ref ar), some tv, none] ∧ LH C PN PV H' p L b d dg n5 dn wl vd vw shh s ∧ H' ar = some (.tup ((adA j).map aV)) ∧
      ((s.wa ≠ none ∧ shh = s ∧ tv = .str "atwork") ∨ (s.wa = none ∧ tv = dueV m nm (adA j) s.an.length ∧ shh = shOf m nm (adA j) s))) ?_ (fun mid => ?_)
    rotate_left
    · refine ⟨_, rfl, _, rfl, _, rfl, _, rfl, p, L, s, m, nm, ar, adA j, rfl, x6.ha, lm, ln, ear6, x6.t2, smA j hj, fun hw H' s' => mid _ _ ⟨_, s, _, rfl, x6.sm s', s' _ _ ear6, .inl ⟨hw, rfl, rfl⟩⟩, fun hw => ⟨fun z ez H' s' => mid _ _ ⟨_, s, _, rfl, x6.st s', s'.k _ _ (fun _ z => by cases z) ear6, .inr ⟨hw, ?_, ?_⟩⟩, fun ez H' sp ha' => mid _ _ ⟨_, _, _, rfl, x6.sp sp ha', sp.2 _ _ (fun _ z => by cases z) ?_ ear6, .inr ⟨hw, ?_, ?_⟩⟩⟩⟩
      · unfold dueV; rw [ez]
      · unfold shOf; rw [ez]
      · obtain ⟨dx, wv, vs, h1, _⟩ := x6.ha.ex
        exact ne_of ear6 h1 (by intro z; cases z)
      · unfold dueV; rw [ez]
      · unfold shOf; rw [ez]
    rintro σ' H7 ⟨n5, shh, tv, rfl, x7, ea7, cs⟩
    refine ⟨_, rfl, by decide, fun l nl => ?_⟩
    have x8 := x7.sm (Same.lst (Same.refl _) nl : Same H7 (upd H7 l (.lst [])))
    have ea8 : upd H7 l (.lst []) ar = some (.tup ((adA j).map aV)) := by rw [upd_ne (ne_of_none ea7 nl)]; exact ea7
    have el : upd H7 l (.lst []) l = some (.lst []) := upd_same
    generalize upd H7 l (.lst []) = H8 at *
    have sh0 : SeqAt.shaped (.list []) = true := by decide +kernel
    rcases cs with ⟨hw, rfl, rfl⟩ | ⟨hw, rfl, rfl⟩
    · cases hw3 : shh.wa with
      | none => exact absurd hw3 hw
      | some w3 =>
        have pw := x8.pw
        have fw := x8.fw w3 hw3
        rw [hw3] at pw
        obtain ⟨t, x3, e1, e2, e3, l3⟩ := pw
        subst e1
        have ft : Fit (.list [.tuple w3]) 3 8000 := by
          refine (Fit.list (k := 2) (B := 3000) fun d hd => ?_).more (Nat.le_refl _) (by show 1 * (3000 + 2) + 4 ≤ 8000; decide)
          rw [List.mem_singleton.mp hd]
          exact (Fit.tup fw).more (Nat.le_refl _) (by rw [l3]; decide)
        refine ⟨.list [.tuple w3], .list [], .lst (SqL.of x8.ew) (.cons (TD.dp (.tup e2 e3)) .nil), .lst (SqL.of el) .nil, ft.shaped (by decide), sh0, _, rfl, iteY (by simp only [PyData.eqv, PyData.eqvAll]; rfl) ?_⟩
        refine ⟨_, rfl, rfl, ?_⟩
        rw [decide_eq_true rfl]
        exact q _ _ _ _ x8 rfl rfl
    · have pw := x8.pw
      rw [hw] at pw
      have pw : vw = [] := pw
      subst pw
      refine ⟨.list [], .list [], .lst (SqL.of x8.ew) .nil, .lst (SqL.of el) .nil, sh0, sh0, _, rfl, iteE (by simp only [PyData.eqv, PyData.eqvAll]; rfl) ?_⟩
      refine ⟨_, rfl, dn, _, rfl, .inl (SqL.of x8.ed), ?_⟩
      rw [pair_len x8.pd]
      refine gn ?_
      refine nxp ?_
      refine seq_mid (A := tIfS _ _ _) (fun σ' H' => σ' = [some (.ref b), some (.ref p), some nv, some (.ref dn), some (.ref wl), some (.str m), some (.str nm), some (.ref ar), some (dueV m nm (adA j) s.an.length), some (d1V (adA j) s.an.length)] ∧ LH C PN PV H' p L b d dg n5 dn wl vd [] (shOf m nm (adA j) s) s ∧ H' ar = some (.tup ((adA j).map aV))) ?_ (fun mid1 => ?_)
      rotate_left
      · have hA := argsA j hj
        refine ⟨_, rfl, ar, _, rfl, .inr (SqT.of ea8), rfl, _, rfl, ?_⟩
        rw [List.length_map]
        have eq4 : decide (V.int (((adA j).length : Nat) : Int) = V.int 4) = decide ((adA j).length = 4) := by
          by_cases h : (adA j).length = 4
          · rw [decide_eq_true h, h]; exact decide_eq_true rfl
          · rw [decide_eq_false h]; exact decide_eq_false fun z => h (by injection z with z; omega)
        rw [eq4]
        cases h4 : decide ((adA j).length = 4) with
        | true =>
          rw [h4] at hA
          refine iteT (iteT (mid1 _ _ ⟨?_, x8, ea8⟩))
          unfold d1V
          rw [hA]
          rfl
        | false =>
          rw [h4, Bool.false_or] at hA
          refine iteF ⟨_, rfl, (by show 1 ≤ sizeLine; decide), fun c1 m1 => ?_⟩
          have s1 : Same H8 (upd H8 c1 (.tup [.int 100000])) := snew (Same.refl _) m1
          have e1 : upd H8 c1 (.tup [.int 100000]) c1 = some (.tup [.int 100000]) := upd_same
          generalize upd H8 c1 (.tup [.int 100000]) = G1 at *
          refine ⟨120, 21, rfl, rfl, by decide, by decide, (by show 1 ≤ sizeLine; decide), fun c2 m2 => ?_⟩
          have s2 : Same G1 (upd G1 c2 (.tup [.str (S (List.replicate 21 120))])) := snew (Same.refl _) m2
          have e2 : upd G1 c2 (.tup [.str (S (List.replicate 21 120))]) c2 = some (.tup [.str x21]) := upd_same
          generalize upd G1 c2 (.tup [.str (S (List.replicate 21 120))]) = G2 at *
          refine ⟨(by show 2 ≤ sizeLine; decide), fun c3 m3 => ?_⟩
          have s3 : Same G2 (upd G2 c3 (.tup [.ref c1, .ref c2])) := snew (Same.refl _) m3
          have x9 := x8.sm (strans s1 (strans s2 s3))
          have ea9 := s3 _ _ (s2 _ _ (s1 _ _ ea8))
          refine ⟨.tuple ((adA j).map aD), [.tuple [.int 100000], .tuple [.str x21]], TD.dp (.tup ea9 (aD_td _)), TD.dp (.tup upd_same (.cons (.tup (s3 _ _ (s2 _ _ e1)) (.cons (.int _) .nil)) (.cons (.tup (s3 _ _ e2) (.cons (.str _) .nil)) .nil))), adSh j hj, inSh, _, rfl, ?_⟩
          show if inB j = true then _ else _
          cases hb : inB j with
          | true =>
            rw [hb] at hA
            refine iteT (mid1 _ _ ⟨?_, x9, ea9⟩)
            unfold d1V
            rw [hA]
            rfl
          | false =>
            rw [hb] at hA
            refine iteF (mid1 _ _ ⟨?_, x9, ea9⟩)
            unfold d1V
            rw [hA]
            rfl
      rintro σ' H9 ⟨rfl, x9, ea9⟩
      refine seq_mid (A := tIfS _ _ _) (fun σ' H' => σ' = [some (.ref b), some (.ref p), some nv, some (.ref dn), some (.ref wl), some (.str m), some (.str nm), some (.ref ar), some (dueV m nm (adA j) s.an.length), some (d2V nm (adA j) s.an.length)] ∧ H' = H9) ?_ (fun mid2 => ?_)
      rotate_left
      · refine ⟨_, rfl, rfl, _, rfl, ite2 (fun h => ?_) (fun h => ?_)⟩
        · have h : nm = "A" := by
            have h := of_decide_eq_true h
            injection h
          refine mid2 _ _ ⟨?_, rfl⟩
          unfold d2V
          rw [if_pos h]
          rfl
        · have h : ¬ nm = "A" := fun z => h (decide_eq_true (by rw [z]))
          refine mid2 _ _ ⟨?_, rfl⟩
          unfold d2V
          rw [if_neg h]
      rintro σ' H10 ⟨rfl, rfl⟩
      refine seq_mid (A := tIfS _ _ _) (fun σ' H' => σ' = [some (.ref b), some (.ref p), some nv, some (.ref dn), some (.ref wl), some (.str m), some (.str nm), some (.ref ar), some (dueV m nm (adA j) s.an.length), some (dueV m nm (adA j) s.an.length)] ∧ LH C PN PV H' p L b d dg n5 dn wl vd [] (shOf m nm (adA j) s) s ∧ H' ar = some (.tup ((adA j).map aV))) ?_ (fun mid3 => ?_)
      rotate_left
      · have hd := due_eq (ad := adA j) (k := s.an.length) hmM hnN
        refine ⟨_, rfl, (by show 2 ≤ sizeLine; decide), fun c1 m1 => ?_⟩
        have s1 : Same H10 (upd H10 c1 (.tup [.str "let", .str ""])) := snew (Same.refl _) m1
        refine ⟨c1, _, rfl, .inr (SqT.of upd_same), rfl, rfl, _, rfl, ?_⟩
        have x11 := x9.sm s1
        have ea11 := s1 _ _ ea9
        show if inV (.str m) [.str "let", .str ""] = true then _ else _
        cases hi : inV (.str m) [.str "let", .str ""] with
        | true =>
          rw [hi] at hd
          refine iteT (mid3 _ _ ⟨?_, x11, ea11⟩)
          rw [← hd]
          rfl
        | false =>
          rw [hi] at hd
          refine iteF (mid3 _ _ ⟨?_, x11, ea11⟩)
          rw [← hd]
          rfl
      rintro σ' H11 ⟨rfl, x11, ea11⟩
      refine seq_mid (A := tIfS _ _ _) (fun σ' H' => σ' = [some (.ref b), some (.ref p), some nv, some (.ref dn), some (.ref wl), some (.str m), some (.str nm), some (.ref ar), some (dueV m nm (adA j) s.an.length), some (dueV m nm (adA j) s.an.length)] ∧ ∃ vw', LH C PN PV H' p L b d dg n5 dn wl vd vw' (shOf m nm (adA j) s) (shOf m nm (adA j) s)) ?_ (fun mid4 => ?_)
      rotate_left
      · cases hc : chk m nm (adA j) with
        | some z =>
          have e1 : dueV m nm (adA j) s.an.length = .str z := by unfold dueV; rw [hc]
          have e2 : shOf m nm (adA j) s = s := by unfold shOf; rw [hc]
          rw [e2] at x11 mid4
          rw [e1] at mid4 ⊢
          exact ⟨_, rfl, _, rfl, dn, _, rfl, .inl (SqL.of x11.ed), rfl, _, rfl, iteE (by exact decide_eq_false fun z => by cases z) (mid4 _ _ ⟨rfl, _, x11⟩)⟩
        | none =>
          have e1 : dueV m nm (adA j) s.an.length = .int (s.an.length : Nat) := by unfold dueV; rw [hc]
          have e2 : shOf m nm (adA j) s = ⟨s.num, s.an, some [.str m, .str nm, .tuple ((adA j).map aD)]⟩ := by unfold shOf; rw [hc]
          rw [e2] at x11 mid4
          rw [e1] at mid4 ⊢
          refine ⟨_, rfl, _, rfl, dn, _, rfl, .inl (SqL.of x11.ed), rfl, _, rfl, iteY (by rw [pair_len x11.pd]; exact decide_eq_true rfl) ?_⟩
          refine ⟨_, rfl, .inl ⟨rfl, _, SqL.of x11.ew⟩, _, rfl, _, rfl, _, rfl, (by show 3 ≤ sizeLine; decide), fun t nt => ?_⟩
          have s1 : Same H11 (upd H11 t (.tup [.str m, .str nm, .ref ar])) := snew (Same.refl _) nt
          have x12 := x11.sm s1
          have et : upd H11 t (.tup [.str m, .str nm, .ref ar]) t = some (.tup [.str m, .str nm, .ref ar]) := upd_same
          have ea12 := s1 _ _ ea11
          generalize upd H11 t (.tup [.str m, .str nm, .ref ar]) = H12 at *
          refine ⟨wl, [], _, rfl, rfl, x12.ew, by show 0 < sizeLine; decide, mid4 _ _ ⟨rfl, [.ref t], x12.wrw (s' := ⟨s.num, s.an, some [.str m, .str nm, .tuple ((adA j).map aD)]⟩) rfl ?_ ?_⟩⟩
          · have kk : ∀ q xs, H12 q = some (.tup xs) → upd H12 wl (.lst [.ref t]) q = some (.tup xs) := fun q xs e => by rw [upd_ne (ne_of e x12.ew (by intro z; cases z))]; exact e
            exact ⟨t, [.str m, .str nm, .ref ar], rfl, kk _ _ et, .cons (.str _) (.cons (.str _) (.cons (.tup (kk _ _ ea12) (aD_td _)) .nil)), rfl⟩
          · intro w3 hw3 d hd
            cases hw3
            simp only [List.mem_cons, List.not_mem_nil, or_false] at hd
            rcases hd with rfl | rfl | rfl
            · exact (msFit m hmM).more (Nat.zero_le _) (by decide)
            · exact (nsFit nm hnN).more (Nat.zero_le _) (by decide)
            · exact adFit j hj (chk_args hc)
      rintro σ' H12 ⟨rfl, vw', x12⟩
      have eNum : (shOf m nm (adA j) s).num = s.num := by unfold shOf; cases chk m nm (adA j) <;> rfl
      have eAn : (shOf m nm (adA j) s).an = s.an := by unfold shOf; cases chk m nm (adA j) <;> rfl
      obtain ⟨dd, hdd, fit, ndd⟩ : ∃ dd, Dp K H12 (dueV m nm (adA j) s.an.length) dd ∧ Fit dd 0 102 ∧ dd ≠ .none := by
        cases hc : chk m nm (adA j) with
        | some z =>
          have e1 : dueV m nm (adA j) s.an.length = .str z := by unfold dueV; rw [hc]
          rw [e1]
          exact ⟨.str z, .str z, chk_fit hc, fun z => by cases z⟩
        | none =>
          have e1 : dueV m nm (adA j) s.an.length = .int (s.an.length : Nat) := by unfold dueV; rw [hc]
          rw [e1]
          have := pair_len x12.pd
          rw [eAn] at this
          exact ⟨.int (s.an.length : Nat), .int _, (Fit.num (by omega)).more (Nat.le_refl _) (by decide), fun z => by cases z⟩
      exact ⟨_, rfl, _, rfl, _, _, dd, rfl, hdd, hdd, ndd, fit.sh, fit.nd, Nat.le_trans fit.dp (by decide), szBig (Nat.le_trans fit.ln (by decide)), q _ _ _ _ x12 eNum eAn⟩
end
end K5

set_option maxRecDepth 100000
set_option maxHeartbeats 16000000
/-! the law -/
namespace K5
open PySem hiding Tok code
open PySem.Spec PyProof.Rows GD K1 GS
open L2 hiding rest
structure MO6 (P : Program) (w : World) (K : PySem.W.Frag) (mg : Str → Option Value) (base : Heap) (k : Nat) (C : Addr) (m : Str) (ps : List Str) (sp : L2.Sp) (f : Addr) (fd : FuncData) : Prop where
  mt : Meth K C m f
  bi : Binds K fd ps []
  ok : FnOk P w K mg base CX0 k f fd ps sp
theorem sq_keep {K : PySem.W.Frag} {H H' : Hp} {a : Addr} {xs : List V} (h : SqL K H a xs) (k : ∀ o, H a = some o → H' a = some o) : SqL K H' a xs := by
  rcases h with (h | ⟨o, h⟩) | h
  · exact .inl (.inl (k _ h))
  · exact .inl (.inr ⟨o, k _ h⟩)
  · exact .inr h
def AnF (an : List PyData) : Prop := ∀ d ∈ an, Fit d 4 3600
def LP (C PN PV p L b d : Addr) (dg : List Int) (a dn wl : Addr) (num : Nat) (i : Nat) : L2.St → Hp → Prop := fun σ H => ∃ (n : Nat) (vd vw : List V) (s : HoS) (y6 y7 y8 y9 y10 y11 y12 y13 : Option V),
  σ = [some (.ref a), some (.ref b), some (.int (num : Nat)), some (.ref p), some (.ref dn), some (.ref wl), y6, y7, y8, y9, y10, y11, y12, y13] ∧ LH C PN PV H p L b d dg n dn wl vd vw s s ∧ s.num = (num : Nat) ∧ s.an.length ≤ i ∧ AnF s.an
section
variable {C PN PV : Addr} {H H' : Hp} {p L b d dn wl : Addr} {dg : List Int} {n n' : Nat} {vd vw : List V} {sh s : HoS}
theorem LH.wrd (x : LH C PN PV H p L b d dg n dn wl vd vw sh s) {vd' : List V} {s' : HoS} (hwa : s'.wa = s.wa) (pd : Paired (TD (upd H dn (.lst vd'))) vd' s'.an) : LH C PN PV (upd H dn (.lst vd')) p L b d dg n dn wl vd' vw sh s' := by
  have k : ∀ q o, q ≠ dn → H q = some o → upd H dn (.lst vd') q = some o := fun q o a e => by rw [upd_ne a]; exact e
  have kt : KT H (upd H dn (.lst vd')) := fun q xs e => k q _ (ne_of e x.ed (by intro z; cases z)) e
  exact ⟨x.ha.up fun q o _ h e => k q o (fun z => by
      rcases h with h | h
      · exact x.n2 (h ▸ z)
      · rw [z, x.ed] at e
        injection e with e
        exact h _ e.symm) e, ⟨tab_wr x.t2.n x.ed (fun _ z => by cases z), tab_wr x.t2.v x.ed (fun _ z => by cases z)⟩, ⟨k _ _ x.n4.symm x.box.1, k _ _ x.n8.symm x.box.2.1, x.box.2.2⟩, upd_same, k _ _ x.n6 x.ew, pd, by rw [hwa]; exact x.pw.up kt, by rw [hwa]; exact x.fw, x.n1, x.n2, x.n3, x.n4, x.n5, x.n6, x.n7, x.n8, x.n9⟩
theorem LH.he (x : LH C PN PV H p L b d dg n dn wl vd vw sh s) {sh' : HoS} (k : ∀ q u, q ≠ p → q ≠ L → H q = some u → H' q = some u) (ha : HA C H' p L sh') : LH C PN PV H' p L b d dg n dn wl vd vw sh' s := by
  obtain ⟨dx, wv, vs, h1, h2, h3, _⟩ := x.ha.ex
  have kt : KT H H' := fun q xs e => k q _ (ne_of e h1 (by intro z; cases z)) (ne_of e h3 (by intro z; cases z)) e
  have kl : ∀ q xs, L ≠ q → H q = some (.lst xs) → H' q = some (.lst xs) := fun q xs n e => k q _ (ne_of e h1 (by intro z; cases z)) n.symm e
  have tb : ∀ P, GxR.TabG H P → GxR.TabG H' P := fun P ⟨ps, e, r⟩ => ⟨ps, k _ _ (ne_of e h1 (by intro z; cases z)) (ne_of e h3 (by intro z; cases z)) e, r⟩
  exact ⟨ha, ⟨tb _ x.t2.n, tb _ x.t2.v⟩, ⟨kl _ _ x.n1 x.box.1, kl _ _ x.n7 x.box.2.1, x.box.2.2⟩, kl _ _ x.n2 x.ed, kl _ _ x.n3 x.ew, pair_imp x.pd fun a b t => t.up kt, x.pw.up kt, x.fw, x.n1, x.n2, x.n3, x.n4, x.n5, x.n6, x.n7, x.n8, x.n9⟩
/-- the waiting call's list, as data -/
def wlD : Option (List PyData) → PyData
  | none => .list []
  | some w3 => .list [.tuple w3]
theorem LH.wd {K : PySem.W.Frag} (x : LH C PN PV H p L b d dg n dn wl vd vw sh s) : Dp K H (.ref wl) (wlD s.wa) ∧ SeqAt.shaped (wlD s.wa) = true := by
  have pw := x.pw
  have fw := x.fw
  revert pw fw
  have ew := x.ew
  cases s.wa with
  | none =>
    intro pw _
    have pw : vw = [] := pw
    subst pw
    exact ⟨.lst (SqL.of ew) .nil, by show SeqAt.shaped (.list []) = true; decide +kernel⟩
  | some w3 =>
    rintro ⟨t, x3, e1, e2, e3, l3⟩ fw
    subst e1
    have ft : Fit (.list [.tuple w3]) 3 8000 := by
      refine (Fit.list (k := 2) (B := 3000) fun d hd => ?_).more (Nat.le_refl _) (by show 1 * (3000 + 2) + 4 ≤ 8000; decide)
      rw [List.mem_singleton.mp hd]
      exact (Fit.tup (fw w3 rfl)).more (Nat.le_refl _) (by rw [l3]; decide)
    exact ⟨.lst (SqL.of ew) (.cons (TD.dp (.tup e2 e3)) .nil), ft.shaped (by decide)⟩
end
theorem wl_ne : ∀ o : Option (List PyData), (!PyData.eqv (wlD o) (.list [])) = o.isSome
  | none => by simp only [wlD, PyData.eqv, PyData.eqvAll]; rfl
  | some _ => by simp only [wlD, PyData.eqv, PyData.eqvAll]; rfl
theorem sh0 : SeqAt.shaped (.list []) = true := by decide +kernel
def resD : Nat → PyData
  | 0 => .tuple [.str "value", .int 1]
  | 1 => .tuple [.str "value", .str "s"]
  | 2 => .tuple [.str "fault", .tuple [.str "module", .str "a"]]
  | _ => .tuple [.str "fault", .tuple [.str "run", .str "", .tuple [.str "deep"]]]
theorem strFit (z : Str) (h : z.length ≤ 6 := by decide) (h2 : ∀ c ∈ z.cps.toList, c < 1000 := by decide +kernel) : Fit (.str z) 0 62 := Fit.str (n := 6) h h2
theorem resFit : ∀ j < 4, Fit (resD j) 3 500 := by
  intro j hj
  have m2 : ∀ {a b : PyData} {k B : Nat}, Fit a k B → Fit b k B → ∀ d ∈ [a, b], Fit d k B := fun fa fb d hd => by
    simp only [List.mem_cons, List.not_mem_nil, or_false] at hd
    rcases hd with rfl | rfl
    · exact fa
    · exact fb
  match j, hj with
  | 0, _ => exact (Fit.tup (k := 0) (B := 62) (m2 (strFit "value") ((Fit.num (n := 1) (by decide)).more (Nat.le_refl _) (by decide)))).more (by decide) (by show 2 * (62 + 2) + 4 ≤ 500; decide)
  | 1, _ => exact (Fit.tup (k := 0) (B := 62) (m2 (strFit "value") (strFit "s"))).more (by decide) (by show 2 * (62 + 2) + 4 ≤ 500; decide)
  | 2, _ => exact (Fit.tup (k := 1) (B := 150) (m2 ((strFit "fault").more (by decide) (by decide)) ((Fit.tup (k := 0) (B := 62) (m2 (strFit "module") (strFit "a"))).more (by decide) (by show 2 * (62 + 2) + 4 ≤ 150; decide)))).more (by decide) (by show 2 * (150 + 2) + 4 ≤ 500; decide)
  | 3, _ =>
    have f1 : Fit (.tuple [.str "deep"]) 1 70 := (Fit.tup (k := 0) (B := 62) (ds := [.str "deep"]) (fun d hd => by rw [List.mem_singleton.mp hd]; exact strFit "deep")).more (by decide) (by show 1 * (62 + 2) + 4 ≤ 70; decide)
    have f2 : Fit (.tuple [.str "run", .str "", .tuple [.str "deep"]]) 2 230 := (Fit.tup (k := 1) (B := 70) (ds := [.str "run", .str "", .tuple [.str "deep"]]) (fun d hd => by
      simp only [List.mem_cons, List.not_mem_nil, or_false] at hd
      rcases hd with rfl | rfl | rfl
      · exact (strFit "run").more (by decide) (by decide)
      · exact (strFit "").more (by decide) (by decide)
      · exact f1)).more (by decide) (by show 3 * (70 + 2) + 4 ≤ 230; decide)
    exact (Fit.tup (k := 2) (B := 230) (m2 ((strFit "fault").more (by decide) (by decide)) f2)).more (by decide) (by show 2 * (230 + 2) + 4 ≤ 500; decide)
section
variable {P : Program} {w : World} {K : PySem.W.Frag} {mg : Str → Option Value} {base : Heap} {D C PC CM fI PN PV : Addr}
def spLaw (K : PySem.W.Frag) (PN PV : Addr) : L2.Sp := fun vs H Q _ => ∃ (a : Addr) (ns : List Int), vs = [.ref a] ∧ SqL K H a (ns.map V.int) ∧ T2 PN PV H ∧ ∀ H', Q (.bl true) H'
theorem scLaw : FnScope ["script", "box", "number", "holder", "done", "waiting", "turn", "result", "other", "which", "version", "told", "counts", "wanted"] ["script"] (defScope sLaw61) := ⟨rfl, rfl, rfl, by decide +kernel, rfl, by decide +kernel, by decide +kernel⟩
theorem ok_law61 {f f0 f1 f2 fb fa m1 m2 m3 : Addr} {fd fd0 fd1 fd2 fdb fda md1 md2 md3 : FuncData} (F : Fun K "law" "law" sLaw61 f fd) (T : Txt K mg) (T2 : Txt7 mg) (TH : TxH K mg C)
    (MH : Mk K C f0) (bH : Binds K fd0 ["self", "number"] []) (OH : FnOk P w K mg base CX0 1 f0 fd0 ["self", "number"] (spHInit C))
    (G1 : FO P w K mg base CX0 2 "_law_digits" ["script", "first", "last"] (spDigits K) f1 fd1) (G2 : FO P w K mg base CX0 1 "_law_draw" ["box", "many"] spDraw f2 fd2)
    (GB : FnG P w K mg base CX0 8 fb fdb ["box", "holder", "number", "done", "waiting"] (spBegins C PN PV)) (mb : mg "_law_begins" = some (.ref fb)) (kb : PySem.W.keepIn K (.ref fb) = true) (bb : Binds K fdb ["box", "holder", "number", "done", "waiting"] [])
    (FA : FnG P w K mg base CX0 1 fa fda ["one", "two"] (spAlike6 K)) (ma : mg "_law_alike" = some (.ref fa)) (ka : PySem.W.keepIn K (.ref fa) = true) (ba : Binds K fda ["one", "two"] [])
    (ME : MO6 P w K mg base 1 C "hear" ["self", "letter"] (spHear C) m1 md1) (MW : MO6 P w K mg base 1 C "wanted" ["self"] (spWanted C) m2 md2) (MD : MO6 P w K mg base 1 C "done" ["self"] (spDone C) m3 md3) :
    FnG P w K mg base CX0 9 f fd ["script"] (spLaw K PN PV) := by
  have sc := scLaw
  refine okG F sc (fun vs H Q E h => ?_) (fun cdv A outer sh H vs Q E hgd hr h => ?_)
  · obtain ⟨a, ns, rfl, _⟩ := h
    rfl
  · obtain ⟨a, ns, rfl, hS, t2, q⟩ := h
    have hr1 : Room 1 _ := hr.mono (by decide)
    have hr2 : Room 2 _ := hr.mono (by decide)
    refine ⟨_, (pss_cons (ps_set (i := 1) sc.nd rfl (Or.inl rfl) (pe_lst (pa_cons (pe_call G1.ok hr2 (by rfl) G1.m G1.kp G1.b .nil pass0 (pa_cons (pv 0) (pa_cons pe_int (pa_cons pe_int pa_nil)))) (pa_cons pe_int pa_nil))))
      (pss_cons (ps_set (i := 2) sc.nd rfl (Or.inl rfl) (pe_call G2.ok hr1 (by rfl) G2.m G2.kp G2.b .nil pass0 (pa_cons (pv 1) (pa_cons pe_int pa_nil))))
      (pss_cons (ps_set (i := 3) sc.nd rfl (Or.inl rfl) (pe_make MH OH hr2 rfl TH.g bH .nil pass0 (pa_cons (pv 2) pa_nil)))
      (pss_cons (ps_set (i := 4) sc.nd rfl (Or.inl rfl) (pe_lst pa_nil))
      (pss_cons (ps_set (i := 5) sc.nd rfl (Or.inl rfl) (pe_lst pa_nil))
      (pss_cons (ps_for PassesOwn.never rfl (pi_range1 rfl T.range (pa_cons pe_int pa_nil)) (pg_name (i := 6) sc.nd rfl (Or.inl rfl))
      (pss_cons (ps_if (pt_cmpR op_eq (pe_call G2.ok hr1 (by rfl) G2.m G2.kp G2.b .nil pass0 (pa_cons (pv 1) (pa_cons pe_int pa_nil))) pe_int (nomark _))
      (pss_one (ps_if (pt_not (pt_val (pe_callG GB hgd hr (by rfl) mb kb bb .nil pass0 (pa_cons (pv 1) (pa_cons (pv 3) (pa_cons (pv 2) (pa_cons (pv 4) (pa_cons (pv 5) pa_nil))))))))
      (pss_one (ps_ret pe_bl))
      pss_nil))
      (pss_cons (ps_set (i := 7) sc.nd rfl (Or.inl rfl) (pe_ix ix_list (pe_lst (pa_cons (pe_tup (pa_cons pe_str (pa_cons pe_int pa_nil))) (pa_cons (pe_tup (pa_cons pe_str (pa_cons pe_str pa_nil))) (pa_cons (pe_tup (pa_cons pe_str (pa_cons (pe_tup (pa_cons pe_str (pa_cons pe_str pa_nil))) pa_nil))) (pa_cons (pe_tup (pa_cons pe_str (pa_cons (pe_tup (pa_cons pe_str (pa_cons pe_str (pa_cons (pe_tup (pa_cons pe_str pa_nil)) pa_nil)))) pa_nil))) pa_nil))))) (pe_call G2.ok hr1 (by rfl) G2.m G2.kp G2.b .nil pass0 (pa_cons (pv 1) (pa_cons pe_int pa_nil))) (fun _ _ => rfl)))
      (pss_cons (ps_set (i := 8) sc.nd rfl (Or.inl rfl) (pe_ix ix_list (pe_lst (pa_cons (pv 2) (pa_cons (pv 2) (pa_cons (pv 2) (pa_cons (pe_op op_mod (pe_op op_add (pv 2) pe_int) pe_int) pa_nil))))) (pe_call G2.ok hr1 (by rfl) G2.m G2.kp G2.b .nil pass0 (pa_cons (pv 1) (pa_cons pe_int pa_nil))) (fun _ _ => rfl)))
      (pss_cons (ps_set (i := 9) sc.nd rfl (Or.inl rfl) (pe_callB (call_max2 rfl) (by rfl) T2.max (by decide +kernel) (pa_cons pe_int (pa_cons (pe_op op_add (pe_callB call_len_seq (by rfl) T.len (by decide +kernel) (pa_cons (pv 4) pa_nil)) (pe_ix ix_list (pe_lst (pa_cons pe_int (pa_cons pe_int (pa_cons pe_int (pa_cons (pe_un un_neg pe_int) (pa_cons pe_int pa_nil)))))) (pe_call G2.ok hr1 (by rfl) G2.m G2.kp G2.b .nil pass0 (pa_cons (pv 1) (pa_cons pe_int pa_nil))) (fun _ _ => rfl))) pa_nil))))
      (pss_cons (ps_set (i := 10) sc.nd rfl (Or.inl rfl) (pe_call G2.ok hr1 (by rfl) G2.m G2.kp G2.b .nil pass0 (pa_cons (pv 1) (pa_cons pe_int pa_nil))))
      (pss_cons (ps_set (i := 11) sc.nd rfl (Or.inl rfl) (pe_meth (pv 3) TH.cl ME.mt ME.ok hr1 ME.bi .nil pass0 (pa_cons (pe_tup (pa_cons pe_str (pa_cons (pv 8) (pa_cons (pv 9) (pa_cons (pv 10) (pa_cons (pv 7) pa_nil)))))) pa_nil)))
      (pss_cons (ps_set (i := 12) sc.nd rfl (Or.inl rfl) (pe_and (pe_cmpR (op_neD hr.units) (pv 5) (pe_lst pa_nil) (nomark _)) (pe_and (pe_cmpR op_eq (pv 8) (pv 2) (nomark _)) (pe_one (pe_cmpR op_eq (pv 9) (pe_callB call_len_seq (by rfl) T.len (by decide +kernel) (pa_cons (pv 4) pa_nil)) (nomark _))))))
      (pss_cons (ps_if (pt_not (pt_val (pe_callG FA hgd hr1 (by rfl) ma ka ba .nil pass0 (pa_cons (pv 11) (pa_cons (pv 12) pa_nil)))))
      (pss_one (ps_ret pe_bl))
      pss_nil)
      (pss_one (ps_if (pt_val (pv 12))
      (pss_one (ps_expr (pe_bm PySem.F.plainAttrs_list PySem.F.slot_list_append PySem.F.type_list_append mt_append (pv 4) (pa_cons (pe_op op_catT (pe_bm0 PySem.F.plainAttrs_list PySem.F.slot_list_pop PySem.F.type_list_pop mt_pop (pv 5)) (pe_tup (pa_cons (pv 10) (pa_cons (pv 7) pa_nil)))) pa_nil))))
      pss_nil))))))))))
      (pss_cons (ps_set (i := 13) sc.nd rfl (Or.inl rfl) pe_non)
      (pss_cons (ps_if (pt_cmpR (op_neD hr.units) (pv 5) (pe_lst pa_nil) (nomark _))
      (pss_one (ps_set (i := 13) sc.nd rfl (Or.inl rfl) (pe_op op_catT (pe_tup (pa_cons pe_str (pa_cons (pv 2) (pa_cons (pe_callB call_len_seq (by rfl) T.len (by decide +kernel) (pa_cons (pv 4) pa_nil)) pa_nil)))) (pe_ix ix_list (pv 5) pe_int (fun _ _ => rfl)))))
      pss_nil)
      (pss_cons (ps_if (pt_not (pt_val (pe_callG FA hgd hr1 (by rfl) ma ka ba .nil pass0 (pa_cons (pe_tup (pa_cons (pe_meth0 (pv 3) TH.cl MW.mt MW.ok hr1 MW.bi .nil pass0) (pa_cons (pe_meth0 (pv 3) TH.cl MD.mt MD.ok hr1 MD.bi .nil pass0) pa_nil))) (pa_cons (pe_tup (pa_cons (pv 13) (pa_cons (pv 4) pa_nil))) pa_nil)))))
      (pss_one (ps_ret pe_bl))
      pss_nil)
      (pss_one (ps_expr (pe_bm PySem.F.plainAttrs_list PySem.F.slot_list_append PySem.F.type_list_append mt_append (pe_meth0 (pv 3) TH.cl MD.mt MD.ok hr1 MD.bi .nil pass0) (pa_cons pe_str pa_nil)))))))))
      (pss_one (ps_ret pe_bl)))))))), ?_⟩
    refine ⟨_, rfl, a, ns, rfl, hS, fun H1 d dg s1 nd ed ld => ⟨(by show 2 ≤ sizeLine; decide), fun b nb => ?_⟩⟩
    have B0 : Box (upd H1 b (.lst [.ref d, .int 0])) b d dg 0 := ⟨upd_same, by rw [upd_ne (ne_of_none ed nb)]; exact ed, ld⟩
    have t20 : K5.T2 PN PV (upd H1 b (.lst [.ref d, .int 0])) := ((t2.st s1).t.st (Same.lst (Same.refl _) nb)).t
    generalize upd H1 b (.lst [.ref d, .int 0]) = H2 at *
    refine ⟨_, rfl, b, d, dg, 0, 3, rfl, B0, by decide, fun r r0 r1 => ?_⟩
    obtain ⟨num, rfl, hnum⟩ := idx (m := 3) r0 r1
    have v3 := (Bs.refl B0).draw
    have t23 : K5.T2 PN PV (upd H2 b (.lst [.ref d, .int ((0 + 1 : Nat) : Int)])) := ⟨tab_wr t20.n B0.1 (fun _ z => by cases z), tab_wr t20.v B0.1 (fun _ z => by cases z)⟩
    have B3 := v3.box
    generalize upd H2 b (.lst [.ref d, .int ((0 + 1 : Nat) : Int)]) = H3 at *
    refine ⟨_, rfl, fun p dx np ndx nep => ?_⟩
    have s4 : Same H3 (upd (upd H3 dx (.own p)) p (.ins C dx [])) := fun q o e => by rw [upd_ne (ne_of_none e np), upd_ne (ne_of_none e ndx)]; exact e
    refine ⟨p, dx, (num : Nat), rfl, upd_same, by rw [upd_ne nep, upd_same], fun H5 L k5 nL ha => ⟨rfl, ?_⟩⟩
    have s5 : Same H3 H5 := fun q o e => k5 q o (ne_of_none e np) (s4 q o e)
    have nL3 : H3 L = none := sfree s4 nL
    refine ⟨by decide, fun dn ndn => ?_⟩
    have s6 : Same H5 (upd H5 dn (.lst [])) := Same.lst (Same.refl _) ndn
    have e6 : upd H5 dn (.lst []) dn = some (.lst []) := upd_same
    generalize upd H5 dn (.lst []) = H6 at *
    refine ⟨by decide, fun wl nwl => ?_⟩
    have s7 : Same H6 (upd H6 wl (.lst [])) := Same.lst (Same.refl _) nwl
    have e7 : upd H6 wl (.lst []) wl = some (.lst []) := upd_same
    generalize upd H6 wl (.lst []) = H7 at *
    have s37 := strans s5 (strans s6 s7)
    have nwl5 := sfree s6 nwl
    have ndn3 := sfree s5 ndn
    have nwl3 := sfree s5 nwl5
    obtain ⟨dx0, wv0, vs0, ha1, ha2, ha3, _⟩ := ha.ex
    have x7 : LH C PN PV H7 p L b d dg 1 dn wl [] [] ⟨num, [], none⟩ ⟨num, [], none⟩ := ⟨ha.up fun q o _ _ e => s7 _ _ (s6 _ _ e), (t23.st s37).t, ⟨s37 _ _ B3.1, s37 _ _ B3.2.1, B3.2.2⟩, s7 _ _ e6, e7, .nil, rfl, (fun w3 z => by cases z),
      (fun z => by rw [z, B3.1] at nL3; cases nL3), (fun z => by rw [z, ndn] at ha3; cases ha3), (fun z => by rw [z, nwl5] at ha3; cases ha3), (fun z => by rw [z, B3.1] at ndn3; cases ndn3), (fun z => by rw [z, B3.1] at nwl3; cases nwl3), (fun z => by rw [z, e6] at nwl; cases nwl), (fun z => by rw [z, B3.2.1] at nL3; cases nL3), (fun z => by rw [z, B3.2.1] at ndn3; cases ndn3), (fun z => by rw [z, B3.2.1] at nwl3; cases nwl3)⟩
    refine ⟨_, rfl, by decide, by decide, for_range (lo := 0) (n := 40) (LP C PN PV p L b d dg a dn wl num) ⟨1, [], [], ⟨num, [], none⟩, _, _, _, _, _, _, _, _, rfl, x7, rfl, Nat.le_refl _, fun d hd => by cases hd⟩ ?_ ?_⟩
    rotate_left
    · rintro σ H9 _
      exact q _
    rintro i σ H9 hi ⟨n, vd, vw, s, y6, y7, y8, y9, y10, y11, y12, y13, rfl, x, hn, hl, hF⟩
    have lvd : vd.length = s.an.length := pair_len x.pd
    refine seq_mid (A := tIfS _ _ _) (LP C PN PV p L b d dg a dn wl num (i + 1)) ?_ (fun mid => ?_)
    rotate_left
    · refine ⟨_, rfl, b, d, dg, n, 3, rfl, x.box, by decide, fun r r0 r1 => ⟨rfl, _, rfl, ?_⟩⟩
      have x1 := x.bs (Bs.refl x.box).draw
      generalize upd H9 b (.lst [.ref d, .int ((n + 1 : Nat) : Int)]) = H10 at *
      refine ite2 (fun _ => ?_) (fun _ => ?_)
      · refine ⟨_, rfl, _, rfl, _, rfl, _, rfl, _, rfl, p, L, b, d, dn, wl, dg, _, vd, vw, s, _, rfl, x1, by omega, fun H' n' vw' s' x' h1 h2 => ?_⟩
        exact ⟨_, rfl, iteF (mid _ _ ⟨n', vd, vw', s', _, _, _, _, _, _, _, _, rfl, x', h1.trans hn, by rw [h2]; omega, by rw [h2]; exact hF⟩)⟩
      · refine ⟨(by show 2 ≤ sizeLine; decide), fun a0 m0 => ?_⟩
        have s0 : Same H10 (upd H10 a0 (.tup [.str "value", .int 1])) := snew (Same.refl _) m0
        have e0 : upd H10 a0 (.tup [.str "value", .int 1]) a0 = some (.tup [.str "value", .int 1]) := upd_same
        generalize upd H10 a0 (.tup [.str "value", .int 1]) = G0 at *
        refine ⟨(by show 2 ≤ sizeLine; decide), fun a1 m1 => ?_⟩
        have s1 : Same G0 (upd G0 a1 (.tup [.str "value", .str "s"])) := snew (Same.refl _) m1
        have e1 : upd G0 a1 (.tup [.str "value", .str "s"]) a1 = some (.tup [.str "value", .str "s"]) := upd_same
        generalize upd G0 a1 (.tup [.str "value", .str "s"]) = G1 at *
        refine ⟨(by show 2 ≤ sizeLine; decide), fun c0 mc0 => ?_⟩
        have s2 : Same G1 (upd G1 c0 (.tup [.str "module", .str "a"])) := snew (Same.refl _) mc0
        have ec0 : upd G1 c0 (.tup [.str "module", .str "a"]) c0 = some (.tup [.str "module", .str "a"]) := upd_same
        generalize upd G1 c0 (.tup [.str "module", .str "a"]) = G2 at *
        refine ⟨(by show 2 ≤ sizeLine; decide), fun a2 m2 => ?_⟩
        have s3 : Same G2 (upd G2 a2 (.tup [.str "fault", .ref c0])) := snew (Same.refl _) m2
        have e2 : upd G2 a2 (.tup [.str "fault", .ref c0]) a2 = some (.tup [.str "fault", .ref c0]) := upd_same
        generalize upd G2 a2 (.tup [.str "fault", .ref c0]) = G3 at *
        refine ⟨(by show 1 ≤ sizeLine; decide), fun c1 mc1 => ?_⟩
        have s4 : Same G3 (upd G3 c1 (.tup [.str "deep"])) := snew (Same.refl _) mc1
        have ec1 : upd G3 c1 (.tup [.str "deep"]) c1 = some (.tup [.str "deep"]) := upd_same
        generalize upd G3 c1 (.tup [.str "deep"]) = G4 at *
        refine ⟨(by show 3 ≤ sizeLine; decide), fun c2 mc2 => ?_⟩
        have s5 : Same G4 (upd G4 c2 (.tup [.str "run", .str "", .ref c1])) := snew (Same.refl _) mc2
        have ec2 : upd G4 c2 (.tup [.str "run", .str "", .ref c1]) c2 = some (.tup [.str "run", .str "", .ref c1]) := upd_same
        generalize upd G4 c2 (.tup [.str "run", .str "", .ref c1]) = G5 at *
        refine ⟨(by show 2 ≤ sizeLine; decide), fun a3 m3 => ?_⟩
        have s6 : Same G5 (upd G5 a3 (.tup [.str "fault", .ref c2])) := snew (Same.refl _) m3
        have e3 : upd G5 a3 (.tup [.str "fault", .ref c2]) a3 = some (.tup [.str "fault", .ref c2]) := upd_same
        generalize upd G5 a3 (.tup [.str "fault", .ref c2]) = G6 at *
        refine ⟨(by show 4 ≤ sizeLine; decide), fun la nla => ?_⟩
        have s7 : Same G6 (upd G6 la (.lst [.ref a0, .ref a1, .ref a2, .ref a3])) := snew (Same.refl _) nla
        have ela : upd G6 la (.lst [.ref a0, .ref a1, .ref a2, .ref a3]) la = some (.lst [.ref a0, .ref a1, .ref a2, .ref a3]) := upd_same
        have x6 := x1.sm (strans s0 (strans s1 (strans s2 (strans s3 (strans s4 (strans s5 s6))))))
        have nlab : la ≠ b := fun y => by
          have := x6.box.1
          rw [← y, nla] at this
          cases this
        have x7 := x6.sm s7
        generalize upd G6 la (.lst [.ref a0, .ref a1, .ref a2, .ref a3]) = G7 at *
        have s57 := strans s6 s7
        have s47 := strans s5 s57
        have s37 := strans s4 s47
        have s27 := strans s3 s37
        have s17 := strans s2 s27
        have s07 := strans s1 s17
        refine ⟨_, rfl, b, d, dg, _, 4, rfl, x7.box, by decide, fun r r0 r1 => ?_⟩
        obtain ⟨j, rfl, hj⟩ := idx (m := 4) r0 r1
        obtain ⟨ar, har, tar⟩ : ∃ ar, [V.ref a0, .ref a1, .ref a2, .ref a3][j]? = some (.ref ar) ∧ TD G7 (.ref ar) (resD j) := by
          match j, hj with
          | 0, _ => exact ⟨a0, rfl, .tup (s07 _ _ e0) (.cons (.str _) (.cons (.int _) .nil))⟩
          | 1, _ => exact ⟨a1, rfl, .tup (s17 _ _ e1) (.cons (.str _) (.cons (.str _) .nil))⟩
          | 2, _ => exact ⟨a2, rfl, .tup (s37 _ _ e2) (.cons (.str _) (.cons (.tup (s27 _ _ ec0) (.cons (.str _) (.cons (.str _) .nil))) .nil))⟩
          | 3, _ => exact ⟨a3, rfl, .tup (s7 _ _ e3) (.cons (.str _) (.cons (.tup (s57 _ _ ec2) (.cons (.str _) (.cons (.str _) (.cons (.tup (s47 _ _ ec1) (.cons (.str _) .nil)) .nil)))) .nil))⟩
        have v8 := (Bs.refl x7.box).draw
        have x8 := x7.bs v8
        have kt8 : KT G7 (upd G7 b (.lst [.ref d, .int ((n + 1 + 1 : Nat) : Int)])) := fun q xs e => v8.bx _ _ (ne_of e x7.box.1 (by intro z; cases z)) e
        have tar8 := tar.up kt8
        refine ⟨la, _, _, _, rfl, rfl, SqL.of (by rw [upd_ne nlab]; exact ela), atI_nat har, ?_⟩
        generalize upd G7 b (.lst [.ref d, .int ((n + 1 + 1 : Nat) : Int)]) = G8 at *
        refine ⟨_, rfl, _, rfl, _, rfl, _, rfl, _, _, rfl, rfl, _, _, rfl, rfl, (by show (0 : Int) < 3; decide), (by show 4 ≤ sizeLine; decide), fun l1 nl1 => ?_⟩
        have v9 := (Bs.refl x8.box).new (o := .lst [.int (num : Nat), .int (num : Nat), .int (num : Nat), .int (((num : Nat) + 1 : Int) % 3)]) nl1
        have n1b := (Bs.refl x8.box).nb nl1
        refine ⟨_, rfl, b, d, dg, _, 4, rfl, v9.box, by decide, fun r r0 r1 => ?_⟩
        obtain ⟨j2, rfl, hj2⟩ := idx (m := 4) r0 r1
        obtain ⟨ov, hov⟩ : ∃ ov : Int, [V.int (num : Nat), .int (num : Nat), .int (num : Nat), .int (((num : Nat) + 1 : Int) % 3)][j2]? = some (.int ov) := by
          match j2, hj2 with
          | 0, _ => exact ⟨_, rfl⟩
          | 1, _ => exact ⟨_, rfl⟩
          | 2, _ => exact ⟨_, rfl⟩
          | 3, _ => exact ⟨_, rfl⟩
        refine ⟨l1, _, _, _, rfl, rfl, SqL.of (by rw [upd_ne n1b]; exact upd_same), atI_nat hov, ?_⟩
        have v10 := v9.draw
        have x10 := x8.bs v10
        have kt10 : KT G8 _ := fun q xs e => v10.bx _ _ (ne_of e x8.box.1 (by intro z; cases z)) e
        have tar10 := tar8.up kt10
        generalize (upd (upd G8 l1 (.lst [.int (num : Nat), .int (num : Nat), .int (num : Nat), .int (((num : Nat) + 1 : Int) % 3)])) b (.lst [.ref d, .int ((n + 1 + 1 + 1 : Nat) : Int)])) = G10 at *
        clear hov
        refine ⟨_, rfl, dn, _, rfl, .inl (SqL.of x10.ed), _, rfl, (by show 5 ≤ sizeLine; decide), fun l2 nl2 => ?_⟩
        have v11 := (Bs.refl x10.box).new (o := .lst [.int 0, .int 0, .int 0, .int (-1), .int 1]) nl2
        have n2b := (Bs.refl x10.box).nb nl2
        refine ⟨_, rfl, b, d, dg, _, 5, rfl, v11.box, by decide, fun r r0 r1 => ?_⟩
        obtain ⟨j3, rfl, hj3⟩ := idx (m := 5) r0 r1
        obtain ⟨dv, hdv⟩ : ∃ dv : Int, [V.int 0, .int 0, .int 0, .int (-1), .int 1][j3]? = some (.int dv) := by
          match j3, hj3 with
          | 0, _ => exact ⟨_, rfl⟩
          | 1, _ => exact ⟨_, rfl⟩
          | 2, _ => exact ⟨_, rfl⟩
          | 3, _ => exact ⟨_, rfl⟩
          | 4, _ => exact ⟨_, rfl⟩
        refine ⟨l2, _, _, _, rfl, rfl, SqL.of (by rw [upd_ne n2b]; exact upd_same), atI_nat hdv, _, _, rfl, rfl, _, _, rfl, ?_⟩
        have v12 := v11.draw
        have x12 := x10.bs v12
        have kt12 : KT G10 _ := fun q xs e => v12.bx _ _ (ne_of e x10.box.1 (by intro z; cases z)) e
        have tar12 := tar10.up kt12
        generalize (upd (upd G10 l2 (.lst [.int 0, .int 0, .int 0, .int (-1), .int 1])) b (.lst [.ref d, .int ((n + 1 + 1 + 1 + 1 : Nat) : Int)])) = G12 at *
        generalize (if ((vd.length : Nat) : Int) + dv > 0 then ((vd.length : Nat) : Int) + dv else 0) = wv
        clear hdv
        refine ⟨_, rfl, b, d, dg, _, 9, rfl, x12.box, by decide, fun r r0 r1 => ?_⟩
        obtain ⟨ver, rfl, hver⟩ := idx (m := 9) r0 r1
        have v13 := (Bs.refl x12.box).draw
        have x13 := x12.bs v13
        have kt13 : KT G12 _ := fun q xs e => v13.bx _ _ (ne_of e x12.box.1 (by intro z; cases z)) e
        have tar13 := tar12.up kt13
        generalize upd G12 b (.lst [.ref d, .int ((n + 1 + 1 + 1 + 1 + 1 : Nat) : Int)]) = G13 at *
        refine gn ?_
        refine nxp ?_
        refine seq_mid (A := tAsg _ _) (fun σ' H' => ∃ (cnd : Bool) (shh : HoS), σ' = [some (.ref a), some (.ref b), some (.int (num : Nat)), some (.ref p), some (.ref dn), some (.ref wl), some (.int (0 + (i : Nat))), some (.ref ar), some (.int ov), some (.int wv), some (.int (ver : Nat)), some (.bl cnd), y12, y13] ∧
            LH C PN PV H' p L b d dg (n + 1 + 1 + 1 + 1 + 1) dn wl vd vw shh s ∧ TD H' (.ref ar) (resD j) ∧ cnd = (s.wa.isSome && eqv3 ov wv s.num (s.an.length : Nat)) ∧ ((cnd = false ∧ shh = s) ∨ (cnd = true ∧ ∃ w3, s.wa = some w3 ∧ shh = ⟨s.num, s.an ++ [.tuple (w3 ++ [.int (ver : Nat), resD j])], none⟩))) ?_ (fun mid2 => ?_)
        rotate_left
        · obtain ⟨dx, wv', vs, hp, hdx, hL, _⟩ := x13.ha.ex
          refine ⟨_, rfl, p, dx, _, rfl, hp, hF_no (by decide +kernel), _, rfl, _, rfl, _, rfl, _, rfl, (by show 5 ≤ sizeLine; decide), fun lt nlt => ?_⟩
          have s14 : Same G13 (upd G13 lt (.tup [.str "answer", .int ov, .int wv, .int (ver : Nat), .ref ar])) := snew (Same.refl _) nlt
          have e14 : upd G13 lt (.tup [.str "answer", .int ov, .int wv, .int (ver : Nat), .ref ar]) lt = some (.tup [.str "answer", .int ov, .int wv, .int (ver : Nat), .ref ar]) := upd_same
          have x14 := x13.sm s14
          have tar14 := tar13.up (H' := upd G13 lt (.tup [.str "answer", .int ov, .int wv, .int (ver : Nat), .ref ar])) fun q xs e => s14 _ _ e
          generalize upd G13 lt (.tup [.str "answer", .int ov, .int wv, .int (ver : Nat), .ref ar]) = G14 at *
          refine ⟨p, L, s, lt, ov, wv, .int (ver : Nat), .ref ar, .int (ver : Nat), resD j, rfl, x14.ha, by omega, e14, .int _, tar14, fun h H' s' => mid2 _ _ ⟨false, s, rfl, x14.sm s', tar14.up fun q xs e => s' _ _ e, ?_, .inl ⟨rfl, rfl⟩⟩, fun w3 hw hq H' k ha' => mid2 _ _ ⟨true, _, rfl, x14.he k ha', tar14.up fun q xs e => k q _ (ne_of e (s14 _ _ hp) (by intro z; cases z)) (ne_of e (s14 _ _ hL) (by intro z; cases z)) e, ?_, .inr ⟨rfl, w3, hw, rfl⟩⟩⟩
          · rcases h with h | h
            · rw [h]; rfl
            · rw [h, Bool.and_false]
          · rw [hw, hq]; rfl
        rintro σ' G15 ⟨cnd, shh, rfl, x15, tar15, ecnd, cs⟩
        refine seq_mid (A := tAsg _ _) (fun σ' H' => σ' = [some (.ref a), some (.ref b), some (.int (num : Nat)), some (.ref p), some (.ref dn), some (.ref wl), some (.int (0 + (i : Nat))), some (.ref ar), some (.int ov), some (.int wv), some (.int (ver : Nat)), some (.bl cnd), some (.bl cnd), y13] ∧ Same G15 H') ?_ (fun mid3 => ?_)
        rotate_left
        · refine ⟨_, rfl, by decide, fun l nl => ?_⟩
          have s16 : Same G15 (upd G15 l (.lst [])) := Same.lst (Same.refl _) nl
          have el : upd G15 l (.lst []) l = some (.lst []) := upd_same
          generalize upd G15 l (.lst []) = G16 at *
          have x16 := x15.sm s16
          obtain ⟨dw, shw⟩ := x16.wd (K := K)
          refine ⟨wlD s.wa, .list [], dw, .lst (SqL.of el) .nil, shw, sh0, _, rfl, ?_⟩
          rw [wl_ne]
          cases hs : s.wa.isSome with
          | false =>
            rw [hs, Bool.false_and] at ecnd
            subst ecnd
            exact iteF (mid3 _ _ ⟨rfl, s16⟩)
          | true =>
            rw [hs, Bool.true_and] at ecnd
            refine iteT ⟨_, rfl, _, rfl, rfl, _, rfl, ?_⟩
            have eo : decide (V.int ov = V.int (num : Nat)) = decide (ov = s.num) := by
              rw [hn]
              by_cases h : ov = (num : Nat)
              · rw [h, decide_eq_true rfl, decide_eq_true rfl]
              · rw [decide_eq_false h]; exact decide_eq_false fun z => h (by injection z)
            rw [eo]
            cases ho : decide (ov = s.num) with
            | false =>
              have : cnd = false := by rw [ecnd]; unfold eqv3; exact decide_eq_false fun z => of_decide_eq_false ho z.1
              subst this
              exact iteF (mid3 _ _ ⟨rfl, s16⟩)
            | true =>
              refine iteT ⟨_, rfl, _, rfl, dn, _, rfl, .inl (SqL.of x16.ed), rfl, ?_⟩
              have ew : decide (V.int wv = V.int (vd.length : Nat)) = cnd := by
                rw [ecnd, lvd]
                unfold eqv3
                by_cases h : wv = (s.an.length : Nat)
                · exact (decide_eq_true (by rw [h])).trans (decide_eq_true ⟨of_decide_eq_true ho, h⟩).symm
                · exact (decide_eq_false fun z => h (by injection z)).trans (decide_eq_false fun z => h z.2).symm
              rw [ew]
              exact mid3 _ _ ⟨rfl, s16⟩
        rintro σ' G16 ⟨rfl, s16⟩
        have x16 := x15.sm s16
        have tar16 := tar15.up (H' := G16) fun q xs e => s16 _ _ e
        refine ⟨_, rfl, _, rfl, _, _, .bool cnd, rfl, .bl _, .bl _, fun z => (by cases z), (Fit.bool cnd).sh, (Fit.bool cnd).nd, Nat.le_trans (Fit.bool cnd).dp (by decide), szBig (Nat.le_trans (Fit.bool cnd).ln (by decide)), _, rfl, iteF ?_⟩
        refine ⟨_, rfl, cnd, rfl, ?_⟩
        rcases cs with ⟨rfl, rfl⟩ | ⟨rfl, w3, hw, rfl⟩
        · exact iteF (mid _ _ ⟨_, vd, vw, shh, _, _, _, _, _, _, _, _, rfl, x16, hn, by omega, hF⟩)
        · have pw := x16.pw
          have fw := x16.fw w3 hw
          rw [hw] at pw
          obtain ⟨t, x3, e1', e2', e3', l3⟩ := pw
          subst e1'
          have lx : x3.length = 3 := by rw [TDs.len e3', l3]
          refine iteT ⟨_, rfl, .inl ⟨rfl, _, SqL.of x16.ed⟩, _, rfl, .inl ⟨rfl, _, SqL.of x16.ew⟩, wl, [.ref t], .ref t, rfl, rfl, x16.ew, rfl, ?_⟩
          rw [show ([V.ref t] : List V).dropLast = [] from rfl]
          have x17 := x16.wrw (vw' := []) (s' := ⟨s.num, s.an, none⟩) rfl rfl (fun w3 z => by cases z)
          have kt17 : KT G16 (upd G16 wl (.lst [])) := fun q xs e => by rw [upd_ne (ne_of e x16.ew (by intro z; cases z))]; exact e
          have e217 := kt17 _ _ e2'
          have e317 := e3'.up kt17
          have tar17 := tar16.up kt17
          generalize upd G16 wl (.lst []) = G17 at *
          refine ⟨_, rfl, _, rfl, (by show 2 ≤ sizeLine; decide), fun t1 nt1 => ?_⟩
          have s18 : Same G17 (upd G17 t1 (.tup [.int (ver : Nat), .ref ar])) := snew (Same.refl _) nt1
          have et1 : upd G17 t1 (.tup [.int (ver : Nat), .ref ar]) t1 = some (.tup [.int (ver : Nat), .ref ar]) := upd_same
          generalize upd G17 t1 (.tup [.int (ver : Nat), .ref ar]) = G18 at *
          refine ⟨t, t1, x3, [.int (ver : Nat), .ref ar], rfl, rfl, SqT.of (s18 _ _ e217), SqT.of et1, (fun z => by rw [z] at lx; cases lx), (by rw [lx]; show 3 + 2 ≤ sizeLine; decide), (fun z => by cases z), fun _ t2 nt2 => ?_⟩
          have s19 : Same G18 (upd G18 t2 (.tup (x3 ++ [.int (ver : Nat), .ref ar]))) := snew (Same.refl _) nt2
          have et2 : upd G18 t2 (.tup (x3 ++ [.int (ver : Nat), .ref ar])) t2 = some (.tup (x3 ++ [.int (ver : Nat), .ref ar])) := upd_same
          generalize upd G18 t2 (.tup (x3 ++ [.int (ver : Nat), .ref ar])) = G19 at *
          have x19 := (x17.sm s18).sm s19
          have kt19 : KT G17 G19 := fun q xs e => s19 _ _ (s18 _ _ e)
          have td19 : TD G19 (.ref t2) (.tuple (w3 ++ [.int (ver : Nat), resD j])) := .tup et2 (TDs.app (e317.up kt19) (.cons (.int _) (.cons (tar17.up kt19) .nil)))
          have ktd : KT G19 (upd G19 dn (.lst (vd ++ [.ref t2]))) := fun q xs e => by rw [upd_ne (ne_of e x19.ed (by intro z; cases z))]; exact e
          have x20 := x19.wrd (vd' := vd ++ [.ref t2]) (s' := ⟨s.num, s.an ++ [.tuple (w3 ++ [.int (ver : Nat), resD j])], none⟩) rfl (pair_snoc (pair_imp x19.pd fun a b t => t.up ktd) (td19.up ktd))
          refine ⟨dn, vd, _, rfl, rfl, x19.ed, by rw [lvd]; exact szlt (by omega), mid _ _ ⟨_, _, [], _, _, _, _, _, _, _, _, _, rfl, x20, hn, ?_, fun dd hdd => ?_⟩⟩
          · show (s.an ++ [PyData.tuple (w3 ++ [.int (ver : Nat), resD j])]).length ≤ i + 1
            rw [List.length_append]
            show s.an.length + 1 ≤ i + 1
            omega
          · rcases List.mem_append.mp hdd with hdd | hdd
            · exact hF dd hdd
            · rw [List.mem_singleton.mp hdd]
              refine (Fit.tup (k := 3) (B := 700) fun d2 hd2 => ?_).more (Nat.le_refl _) (by
                rw [List.length_append, l3]
                show 5 * (700 + 2) + 4 ≤ 3600
                decide)
              rcases List.mem_append.mp hd2 with hd2 | hd2
              · exact (fw d2 hd2).more (by decide) (Nat.le_refl _)
              · simp only [List.mem_cons, List.not_mem_nil, or_false] at hd2
                rcases hd2 with rfl | rfl
                · exact (Fit.num (n := ver) (by omega)).more (by decide) (by decide)
                · exact (resFit j hj).more (Nat.le_refl _) (by decide)
    · rintro σ' H10 ⟨n, vd, vw, s, y6, y7, y8, y9, y10, y11, y12, y13, rfl, x, hn, hl, hF⟩
      have lvd : vd.length = s.an.length := pair_len x.pd
      refine nxp ?_
      refine seq_mid (A := tIfS _ _ _) (fun σ' H' => ∃ v13, σ' = [some (.ref a), some (.ref b), some (.int (num : Nat)), some (.ref p), some (.ref dn), some (.ref wl), y6, y7, y8, y9, y10, y11, y12, some v13] ∧ LH C PN PV H' p L b d dg n dn wl vd vw s s ∧
          ((s.wa = none ∧ v13 = .non) ∨ ∃ w3, s.wa = some w3 ∧ TD H' v13 (.tuple ([.str "call", .int (num : Nat), .int (s.an.length : Nat)] ++ w3)))) ?_ (fun mid2 => ?_)
      rotate_left
      · refine ⟨_, rfl, by decide, fun l nl => ?_⟩
        have x2 := x.sm (Same.lst (Same.refl _) nl : Same H10 (upd H10 l (.lst [])))
        have el : upd H10 l (.lst []) l = some (.lst []) := upd_same
        generalize upd H10 l (.lst []) = H11 at *
        obtain ⟨dw, shw⟩ := x2.wd (K := K)
        refine ⟨wlD s.wa, .list [], dw, .lst (SqL.of el) .nil, shw, sh0, _, rfl, ?_⟩
        rw [wl_ne]
        cases hw : s.wa with
        | none => exact iteF (mid2 _ _ ⟨_, rfl, x2, .inl ⟨hw, rfl⟩⟩)
        | some w3 =>
          have pw := x2.pw
          rw [hw] at pw
          obtain ⟨t, x3, e1, e2, e3, l3⟩ := pw
          subst e1
          refine iteT ⟨_, rfl, _, rfl, dn, _, rfl, .inl (SqL.of x2.ed), (by show 3 ≤ sizeLine; decide), fun t1 nt1 => ?_⟩
          rw [lvd]
          have s1 : Same H11 (upd H11 t1 (.tup [.str "call", .int (num : Nat), .int (s.an.length : Nat)])) := snew (Same.refl _) nt1
          have et1 : upd H11 t1 (.tup [.str "call", .int (num : Nat), .int (s.an.length : Nat)]) t1 = some (.tup [.str "call", .int (num : Nat), .int (s.an.length : Nat)]) := upd_same
          generalize upd H11 t1 (.tup [.str "call", .int (num : Nat), .int (s.an.length : Nat)]) = H12 at *
          have lx : x3.length = 3 := by rw [TDs.len e3, l3]
          refine ⟨_, rfl, wl, _, 0, .ref t, rfl, rfl, SqL.of (s1 _ _ x2.ew), atI_nat (j := 0) rfl, t1, t, _, _, rfl, rfl, SqT.of et1, SqT.of (s1 _ _ e2), by simp, by show 3 + x3.length ≤ sizeLine; rw [lx]; decide, fun z => (by rw [z] at lx; cases lx), fun _ t2 nt2 => ?_⟩
          have s2 : Same H12 (upd H12 t2 (.tup ([.str "call", .int (num : Nat), .int (s.an.length : Nat)] ++ x3))) := snew (Same.refl _) nt2
          have kt : KT H11 (upd H12 t2 (.tup ([.str "call", .int (num : Nat), .int (s.an.length : Nat)] ++ x3))) := fun q xs e => s2 _ _ (s1 _ _ e)
          exact mid2 _ _ ⟨_, rfl, (x2.sm s1).sm s2, .inr ⟨w3, hw, .tup upd_same (TDs.app (.cons (.str _) (.cons (.int _) (.cons (.int _) .nil))) (e3.up kt))⟩⟩
      rintro σ' H11 ⟨v13, rfl, x2, cs⟩
      obtain ⟨dx, wv, vs, hp, hdx, hL, hpr, hwa⟩ := x2.ha.ex
      refine ⟨_, rfl, p, dx, _, rfl, hp, hF_no (by decide +kernel), p, L, s, rfl, x2.ha, fun v hv => ?_⟩
      refine ⟨_, rfl, p, dx, _, rfl, hp, hF_no (by decide +kernel), p, L, s, rfl, x2.ha, fun H12 ld vd' s12 nld eld pld => ?_⟩
      refine ⟨(by show 2 ≤ sizeLine; decide), fun t1 nt1 => ?_⟩
      have s13 : Same H12 (upd H12 t1 (.tup [v, .ref ld])) := snew (Same.refl _) nt1
      have et1 : upd H12 t1 (.tup [v, .ref ld]) t1 = some (.tup [v, .ref ld]) := upd_same
      generalize upd H12 t1 (.tup [v, .ref ld]) = H13 at *
      refine ⟨_, rfl, _, rfl, (by show 2 ≤ sizeLine; decide), fun t2 nt2 => ?_⟩
      have s14 : Same H13 (upd H13 t2 (.tup [v13, .ref dn])) := snew (Same.refl _) nt2
      have et2 : upd H13 t2 (.tup [v13, .ref dn]) t2 = some (.tup [v13, .ref dn]) := upd_same
      generalize upd H13 t2 (.tup [v13, .ref dn]) = H14 at *
      have s1114 := strans s12 (strans s13 s14)
      have x14 := x2.sm s1114
      have kt14 : KT H11 H14 := fun q xs e => s1114 _ _ e
      have kt24 : KT H12 H14 := fun q xs e => s14 _ _ (s13 _ _ e)
      have alls : ∀ {vs' : List V} {ds : List PyData}, Paired (TD H14) vs' ds → DpAll K H14 vs' ds := fun h => by
        induction h with
        | nil => exact .nil
        | cons a _ ih => exact .cons (TD.dp a) ih
      have dl : Dp K H14 (.ref ld) (.list s.an) := .lst (SqL.of (s14 _ _ (s13 _ _ eld))) (alls (pair_imp pld fun a b t => t.up kt24))
      have dd : Dp K H14 (.ref dn) (.list s.an) := .lst (SqL.of x14.ed) (alls x14.pd)
      have fan : Fit (.list s.an) 5 150000 := (Fit.list hF).more (Nat.le_refl _) (by
        have : s.an.length * (3600 + 2) ≤ 41 * 3602 := Nat.mul_le_mul_right _ (by omega)
        omega)
      obtain ⟨wD, dv, dv13, fw⟩ : ∃ wD, Dp K H14 v wD ∧ Dp K H14 v13 wD ∧ Fit wD 5 150000 := by
        rcases cs with ⟨hw, e13⟩ | ⟨w3, hw, td13⟩
        · rw [hw] at hv
          have hv : v = .non := hv
          rw [hv, e13]
          exact ⟨.none, .non, .non, Fit.none.more (by decide) (by decide)⟩
        · rw [hw] at hv
          obtain ⟨t, x3, e1, e2, e3, l3⟩ := hv
          subst e1
          rw [hn] at e2
          refine ⟨_, TD.dp (.tup (kt14 _ _ e2) (.cons (.str _) (.cons (.int _) (.cons (.int _) (e3.up kt14))))), TD.dp (td13.up kt14), ?_⟩
          refine (Fit.tup (k := 1) (B := 700) fun dd hdd => ?_).more (by decide) (by
            rw [List.length_cons, List.length_cons, List.length_cons, l3]
            decide)
          simp only [List.mem_cons] at hdd
          rcases hdd with rfl | rfl | rfl | hdd
          · exact (strFit "call").more (by decide) (by decide)
          · exact (Fit.num (n := num) (by omega)).more (by decide) (by decide)
          · exact (Fit.num (n := s.an.length) (by omega)).more (by decide) (by decide)
          · exact x2.fw w3 hw dd hdd
      have fD : Fit (.tuple [wD, .list s.an]) 6 310000 := (Fit.tup (k := 5) (B := 150000) (ds := [wD, .list s.an]) (fun dd hdd => by
        simp only [List.mem_cons, List.not_mem_nil, or_false] at hdd
        rcases hdd with rfl | rfl
        · exact fw
        · exact fan)).more (Nat.le_refl _) (by show 2 * (150000 + 2) + 4 ≤ 310000; decide)
      refine ⟨_, _, .tuple [wD, .list s.an], rfl, .tup (SqT.of (s14 _ _ et1)) (.cons dv (.cons dl .nil)), .tup (SqT.of et2) (.cons dv13 (.cons dd .nil)), fun z => (by cases z), fD.sh, fD.nd, Nat.le_trans fD.dp (by decide), szBig (Nat.le_trans fD.ln (by decide)), _, rfl, iteF ?_⟩
      obtain ⟨dx, wv, vs, hp, _⟩ := x14.ha.ex
      refine ⟨_, rfl, p, dx, _, rfl, hp, hF_no (by decide +kernel), p, L, s, rfl, x14.ha, fun H15 lq vq s15 nlq elq plq => ⟨.inl ⟨rfl, _, SqL.of elq⟩, lq, vq, _, rfl, rfl, elq, by rw [pair_len plq]; exact szlt (by omega), ?_⟩⟩
      have s16 : Same H14 (upd H15 lq (.lst (vq ++ [.str "more"]))) := fun q o e => by rw [upd_ne (ne_of_none e nlq)]; exact s15 q o e
      exact ⟨n, vd, vw, s, y6, _, _, _, _, _, _, _, rfl, x14.sm s16, hn, hl, hF⟩
end
end K5

set_option maxRecDepth 100000
set_option maxHeartbeats 16000000
namespace K5
open PySem hiding Tok code
open PySem.Spec PyProof.Rows GD K1 GS
open L2 hiding rest
abbrev sLaw : Stmt := topS 27
def strOf : Value → Option Str
  | .str x _ => some x
  | _ => none
theorem vals_strs : ∀ (l : List Str) (us : List Value), us.map strOf = l.map some → Vals (l.map V.str) us
  | [], [], _ => .nil
  | [], _ :: _, h => by cases h
  | _ :: _, [], h => by cases h
  | x :: l, u :: us, h => by
    have h1 : strOf u = some x := (List.cons.inj h).1
    have h2 : us.map strOf = l.map some := (List.cons.inj h).2
    refine .cons ?_ (vals_strs l us h2)
    cases u with
    | str z t =>
      have e : z = x := Option.some.inj h1
      subst e
      exact ⟨t, rfl⟩
    | _ => cases h1
theorem exm_no {K : PySem.W.Frag} {E F : Addr} {b : Bool} (hb : PySem.W.subIn K (.ref E) (.type "BaseException") = some true) (hi : PySem.W.isClsIn K E = true) (ht : PySem.W.typeIn K (.ref E) = some (.type "type")) (hs : PySem.W.subIn K (.ref F) (.ref E) = some b) : PySem.W.exmOne K (.ref F) (.ref E) = some b := by
  have hi : (PySem.W.clsIn K E).isSome = true := hi
  unfold PySem.W.exmOne PySem.W.kitCls
  simp [hb, hi, ht, hs]
theorem kit_same {K : PySem.W.Frag} {E : Addr} : PySem.W.kitOne K (.ref E) (.ref E) = some true := by
  unfold PySem.W.kitOne
  simp

theorem end_at {l : PySem.W.OpenLaw} {q : Program} {w : World} {K : PySem.W.Frag} {h : Heap} {mg : Str → Option Value} {fa : Addr} (X : K.In h) (G : h.Ns mainGlobals mg) (hfa : mg "law" = some (.ref fa)) (TB : TabsAt q K mg h)
    {f1 f2 f3 f4 f5 f6 f7 f8 f9 f10 f11 f12 f13 f14 f15 f16 f17 tcN tpN tcV tpV CH EP EO EM fI ccI cdaI NO ra : Addr} {od1 an1 od2 an2 od3 an3 od4 an4 od5 an5 od6 an6 od7 an7 od8 an8 od9 an9 od10 an10 od11 an11 od12 an12 od13 an13 od14 an14 od15 an15 od16 an16 od17 an17 tdN tdV odI anI ddO cddI cldI dR : Option Addr} {sl1 sl2 sl3 sl4 sl5 sl6 sl7 sl8 sl9 sl10 sl11 sl12 sl13 sl14 sl15 sl16 sl17 tsN tsV slI ccsI cslI sR : Array (Option Value)}
    {oc1 kV1 dc1 pm1 ct1 oc2 kV2 dc2 pm2 ct2 oc3 kV3 dc3 pm3 ct3 oc4 kV4 dc4 pm4 ct4 oc5 kV5 dc5 pm5 ct5 oc6 kV6 dc6 pm6 ct6 oc7 kV7 dc7 pm7 ct7 oc8 kV8 dc8 pm8 ct8 oc9 kV9 dc9 pm9 ct9 oc10 kV10 dc10 pm10 ct10 oc11 kV11 dc11 pm11 ct11 oc12 kV12 dc12 pm12 ct12 oc13 kV13 dc13 pm13 ct13 oc14 kV14 dc14 pm14 ct14 oc15 kV15 dc15 pm15 ct15 oc16 kV16 dc16 pm16 ct16 oc17 kV17 dc17 pm17 ct17 cd3 cd4 cd5 cd6 cd7 cd8 cd9 cd10 cd11 cd12 cd13 cd14 cd15 cd16 cd17 teN teV : Value} {tuN tuV vsI iR : Array Value} {t_NAME_MOST t_NUMBER_MOST t_STRING_MOST t_ARGUMENTS_MOST t_CHARACTERS t_LETTERS tfI : PySem.Tok} {nmO qO fileI : Str} {bsO bmO subO : List Value} {snO : List Str} {abO : Bool} {colO : Option Bool} {k0O k1O k2O k3O k5O : Option Value} {ocI kVI dcI pmI ctI cclI clI : Value} {nR : Nat}
    (gH : PySem.W.nsIn K mainGlobals "Holder" = some (some (.ref CH)))
    (xP : PySem.W.nsIn K mainGlobals "AtWork" = some (some (.ref EP)))
    (a1 : PySem.W.nsIn K mainGlobals "is_name" = some (some (.ref f1)))
    (l1 : K.lookup f1 = some ⟨oc1, od1, .func (PySem.W.fnOf "is_name" "is_name" (defArgs sIsName) (defBody sIsName) (defScope sIsName) .none kV1 dc1 pm1 an1 (.ref tcN) ct1), sl1⟩)
    (c1 : PySem.W.codeIn K (.ref tcN) "is_name" = true)
    (k1 : PySem.W.keepIn K (.ref f1) = true)
    (a2 : PySem.W.nsIn K mainGlobals "is_value" = some (some (.ref f2)))
    (l2 : K.lookup f2 = some ⟨oc2, od2, .func (PySem.W.fnOf "is_value" "is_value" (defArgs sIsValue) (defBody sIsValue) (defScope sIsValue) .none kV2 dc2 pm2 an2 (.ref tcV) ct2), sl2⟩)
    (c2 : PySem.W.codeIn K (.ref tcV) "is_value" = true)
    (k2 : PySem.W.keepIn K (.ref f2) = true)
    (a3 : PySem.W.nsIn K mainGlobals "are_arguments" = some (some (.ref f3)))
    (l3 : K.lookup f3 = some ⟨oc3, od3, .func (PySem.W.fnOf "are_arguments" "are_arguments" (defArgs sAreA) (defBody sAreA) (defScope sAreA) .none kV3 dc3 pm3 an3 cd3 ct3), sl3⟩)
    (c3 : PySem.W.codeIn K cd3 "are_arguments" = true)
    (k3 : PySem.W.keepIn K (.ref f3) = true)
    (a4 : PySem.W.nsIn K mainGlobals "check_arguments" = some (some (.ref f4)))
    (l4 : K.lookup f4 = some ⟨oc4, od4, .func (PySem.W.fnOf "check_arguments" "check_arguments" (defArgs sChkA) (defBody sChkA) (defScope sChkA) .none kV4 dc4 pm4 an4 cd4 ct4), sl4⟩)
    (c4 : PySem.W.codeIn K cd4 "check_arguments" = true)
    (k4 : PySem.W.keepIn K (.ref f4) = true)
    (a5 : PySem.W.nsIn K mainGlobals "check_call" = some (some (.ref f5)))
    (l5 : K.lookup f5 = some ⟨oc5, od5, .func (PySem.W.fnOf "check_call" "check_call" (defArgs sChk) (defBody sChk) (defScope sChk) .none kV5 dc5 pm5 an5 cd5 ct5), sl5⟩)
    (c5 : PySem.W.codeIn K cd5 "check_call" = true)
    (k5 : PySem.W.keepIn K (.ref f5) = true)
    (a6 : PySem.W.nsIn K mainGlobals "_law_cell" = some (some (.ref f6)))
    (l6 : K.lookup f6 = some ⟨oc6, od6, .func (PySem.W.fnOf "_law_cell" "_law_cell" (defArgs sCell) (defBody sCell) (defScope sCell) .none kV6 dc6 pm6 an6 cd6 ct6), sl6⟩)
    (c6 : PySem.W.codeIn K cd6 "_law_cell" = true)
    (k6 : PySem.W.keepIn K (.ref f6) = true)
    (a7 : PySem.W.nsIn K mainGlobals "_law_digits" = some (some (.ref f7)))
    (l7 : K.lookup f7 = some ⟨oc7, od7, .func (PySem.W.fnOf "_law_digits" "_law_digits" (defArgs sDigits) (defBody sDigits) (defScope sDigits) .none kV7 dc7 pm7 an7 cd7 ct7), sl7⟩)
    (c7 : PySem.W.codeIn K cd7 "_law_digits" = true)
    (k7 : PySem.W.keepIn K (.ref f7) = true)
    (a8 : PySem.W.nsIn K mainGlobals "_law_draw" = some (some (.ref f8)))
    (l8 : K.lookup f8 = some ⟨oc8, od8, .func (PySem.W.fnOf "_law_draw" "_law_draw" (defArgs sDraw) (defBody sDraw) (defScope sDraw) .none kV8 dc8 pm8 an8 cd8 ct8), sl8⟩)
    (c8 : PySem.W.codeIn K cd8 "_law_draw" = true)
    (k8 : PySem.W.keepIn K (.ref f8) = true)
    (a9 : PySem.W.nsIn K mainGlobals "_law_alike" = some (some (.ref f9)))
    (l9 : K.lookup f9 = some ⟨oc9, od9, .func (PySem.W.fnOf "_law_alike" "_law_alike" (defArgs sAlike6) (defBody sAlike6) (defScope sAlike6) .none kV9 dc9 pm9 an9 cd9 ct9), sl9⟩)
    (c9 : PySem.W.codeIn K cd9 "_law_alike" = true)
    (k9 : PySem.W.keepIn K (.ref f9) = true)
    (a10 : PySem.W.nsIn K mainGlobals "_law_begun" = some (some (.ref f10)))
    (l10 : K.lookup f10 = some ⟨oc10, od10, .func (PySem.W.fnOf "_law_begun" "_law_begun" (defArgs sBegun) (defBody sBegun) (defScope sBegun) .none kV10 dc10 pm10 an10 cd10 ct10), sl10⟩)
    (c10 : PySem.W.codeIn K cd10 "_law_begun" = true)
    (k10 : PySem.W.keepIn K (.ref f10) = true)
    (a11 : PySem.W.nsIn K mainGlobals "_law_begins" = some (some (.ref f11)))
    (l11 : K.lookup f11 = some ⟨oc11, od11, .func (PySem.W.fnOf "_law_begins" "_law_begins" (defArgs sBegins) (defBody sBegins) (defScope sBegins) .none kV11 dc11 pm11 an11 cd11 ct11), sl11⟩)
    (c11 : PySem.W.codeIn K cd11 "_law_begins" = true)
    (k11 : PySem.W.keepIn K (.ref f11) = true)
    (a12 : PySem.W.nsIn K mainGlobals "law" = some (some (.ref f12)))
    (l12 : K.lookup f12 = some ⟨oc12, od12, .func (PySem.W.fnOf "law" "law" (defArgs sLaw) (defBody sLaw) (defScope sLaw) .none kV12 dc12 pm12 an12 cd12 ct12), sl12⟩)
    (c12 : PySem.W.codeIn K cd12 "law" = true)
    (k12 : PySem.W.keepIn K (.ref f12) = true)
    (a13 : PySem.W.findIn K (.ref CH) "__init__" = some (some (.ref f13)))
    (i13 : PySem.W.isFn K (.ref f13) = true)
    (l13 : K.lookup f13 = some ⟨oc13, od13, .func (PySem.W.fnOf "__init__" "Holder.__init__" (defArgs mHInit) (defBody mHInit) (defScope mHInit) .none kV13 dc13 pm13 an13 cd13 ct13), sl13⟩)
    (c13 : PySem.W.codeIn K cd13 "Holder.__init__" = true)
    (k13 : PySem.W.keepIn K (.ref f13) = true)
    (a14 : PySem.W.findIn K (.ref CH) "begin" = some (some (.ref f14)))
    (i14 : PySem.W.isFn K (.ref f14) = true)
    (l14 : K.lookup f14 = some ⟨oc14, od14, .func (PySem.W.fnOf "begin" "Holder.begin" (defArgs mBegin) (defBody mBegin) (defScope mBegin) .none kV14 dc14 pm14 an14 cd14 ct14), sl14⟩)
    (c14 : PySem.W.codeIn K cd14 "Holder.begin" = true)
    (k14 : PySem.W.keepIn K (.ref f14) = true)
    (a15 : PySem.W.findIn K (.ref CH) "wanted" = some (some (.ref f15)))
    (i15 : PySem.W.isFn K (.ref f15) = true)
    (l15 : K.lookup f15 = some ⟨oc15, od15, .func (PySem.W.fnOf "wanted" "Holder.wanted" (defArgs mWanted) (defBody mWanted) (defScope mWanted) .none kV15 dc15 pm15 an15 cd15 ct15), sl15⟩)
    (c15 : PySem.W.codeIn K cd15 "Holder.wanted" = true)
    (k15 : PySem.W.keepIn K (.ref f15) = true)
    (a16 : PySem.W.findIn K (.ref CH) "hear" = some (some (.ref f16)))
    (i16 : PySem.W.isFn K (.ref f16) = true)
    (l16 : K.lookup f16 = some ⟨oc16, od16, .func (PySem.W.fnOf "hear" "Holder.hear" (defArgs mHear) (defBody mHear) (defScope mHear) .none kV16 dc16 pm16 an16 cd16 ct16), sl16⟩)
    (c16 : PySem.W.codeIn K cd16 "Holder.hear" = true)
    (k16 : PySem.W.keepIn K (.ref f16) = true)
    (a17 : PySem.W.findIn K (.ref CH) "done" = some (some (.ref f17)))
    (i17 : PySem.W.isFn K (.ref f17) = true)
    (l17 : K.lookup f17 = some ⟨oc17, od17, .func (PySem.W.fnOf "done" "Holder.done" (defArgs mDone) (defBody mDone) (defScope mDone) .none kV17 dc17 pm17 an17 cd17 ct17), sl17⟩)
    (c17 : PySem.W.codeIn K cd17 "Holder.done" = true)
    (k17 : PySem.W.keepIn K (.ref f17) = true)
    (pgH : PySem.W.plainGet K CH Str.empty = true)
    (hdH : PySem.W.hasDictIn K CH = true)
    (poH : PySem.W.plainOver K CH = true)
    (saH : PySem.W.findIn K (.ref CH) "__setattr__" = some (some (.builtin "object.__setattr__")))
    (mkH : PySem.W.makesIn K CH = true)
    (kcH : PySem.W.keepIn K (.ref CH) = true)
    (naH0 : PySem.W.findIn K (.ref CH) "number" = some none)
    (naH1 : PySem.W.findIn K (.ref CH) "waiting" = some none)
    (naH2 : PySem.W.findIn K (.ref CH) "answered" = some none)
    (exP : PySem.W.excIn K EP [.type "ValueError", .type "Exception", .type "BaseException", .type "object"] "ValueError.__new__" = true)
    (ekP : PySem.W.keepIn K (.ref EP) = true)
    (ebP : PySem.W.subIn K (.ref EP) (.type "BaseException") = some true)
    (etP : PySem.W.typeIn K (.ref EP) = some (.type "type"))
    (eiP : PySem.W.isClsIn K EP = true)
    (esP : PySem.W.subIn K (.ref EP) (.ref EP) = some true)
    (z_len : PySem.W.nsIn K mainGlobals "len" = some none)
    (z_range : PySem.W.nsIn K mainGlobals "range" = some none)
    (z_bint : PySem.W.nsIn K mainGlobals "int" = some none)
    (z_blist : PySem.W.nsIn K mainGlobals "list" = some none)
    (z_repr : PySem.W.nsIn K mainGlobals "repr" = some none)
    (z_bstr : PySem.W.nsIn K mainGlobals "str" = some none)
    (z_bbool : PySem.W.nsIn K mainGlobals "bool" = some none)
    (z_isinstance : PySem.W.nsIn K mainGlobals "isinstance" = some none)
    (z_all : PySem.W.nsIn K mainGlobals "all" = some none)
    (z_btuple : PySem.W.nsIn K mainGlobals "tuple" = some none)
    (z_max : PySem.W.nsIn K mainGlobals "max" = some none)
    (z_super : PySem.W.nsIn K mainGlobals "super" = some none)
    (y_NAME_MOST : PySem.W.nsIn K mainGlobals "NAME_MOST" = some (some (.int 6 t_NAME_MOST)))
    (y_NUMBER_MOST : PySem.W.nsIn K mainGlobals "NUMBER_MOST" = some (some (.int 99999 t_NUMBER_MOST)))
    (y_STRING_MOST : PySem.W.nsIn K mainGlobals "STRING_MOST" = some (some (.int 20 t_STRING_MOST)))
    (y_ARGUMENTS_MOST : PySem.W.nsIn K mainGlobals "ARGUMENTS_MOST" = some (some (.int 3 t_ARGUMENTS_MOST)))
    (y_CHARACTERS : PySem.W.nsIn K mainGlobals "CHARACTERS" = some (some (.str " !\"#$&'()*+,-./0123456789:;<=>?@ABCDEFGHIJKLMNOPQRSTUVWXYZ[\\]^_`abcdefghijklmnopqrstuvwxyz{|}~" t_CHARACTERS)))
    (y_LETTERS : PySem.W.nsIn K mainGlobals "LETTERS" = some (some (.str "abcdefghijklmnopqrstuvwxyz" t_LETTERS)))
    (uRA : PySem.W.nsIn K mainGlobals "RESERVED" = some (some (.ref ra)))
    (uRL : K.lookup ra = some ⟨.type "tuple", dR, .seq iR nR, sR⟩)
    (uRZ : iR.size ≤ sizeLine)
    (uRV : iR.toList.map strOf = kw13.map some)
    (hdP : PySem.W.hasDictIn K EP = true)
    (hgP : PySem.W.findIn K (.ref EP) "__getattribute__" = some (some (.builtin "BaseException.__getattribute__")))
    (hkP : PySem.W.findIn K (.ref EP) "__getattr__" = some none)
    (haP : PySem.W.findIn K (.ref EP) "__class__" = some (some (.builtin "object.__class__")))
    (hnP : PySem.W.specialIn K (.builtin "object.__class__") "__get__" = some (some (.builtin "getset_descriptor.__get__")))
    (htP : PySem.W.takesIn K (.builtin "object.__class__") = some true)
    (hmP : PySem.W.mroIn K EP (.type "object") = some true)
    (gO : PySem.W.nsIn K mainGlobals "OutOfRange" = some (some (.ref EO)))
    (gM : PySem.W.nsIn K mainGlobals "ModuleError" = some (some (.ref EM)))
    (xLO : K.lookup EO = some (excClassObj nmO qO EO NO bsO bmO true snO subO abO colO ddO k0O k1O k2O k3O k5O "ValueError.__new__"))
    (rO : PySem.HandSPX.refsVE bmO = true)
    (saO : PySem.W.findIn K (.ref EO) "__setattr__" = some (some (.builtin "object.__setattr__")))
    (gaO : PySem.W.findIn K (.ref EO) "__getattribute__" = some (some (.builtin "BaseException.__getattribute__")))
    (ggO : PySem.W.findIn K (.ref EO) "__getattr__" = some none)
    (nnO : PySem.W.findIn K (.ref EO) "name" = some none)
    (iO : PySem.W.findIn K (.ref EO) "__init__" = some (some (.ref fI)))
    (tyI : PySem.W.typeIn K (.ref fI) = some (.type "function"))
    (kCO : PySem.W.keepIn K (.ref EO) = true)
    (eCO : PySem.W.subIn K (.ref EO) (.type "BaseException") = some true)
    (tCO : PySem.W.typeIn K (.ref EO) = some (.type "type"))
    (hdO : PySem.W.hasDictIn K EO = true)
    (icO : PySem.W.isClsIn K EO = true)
    (sCO : PySem.W.subIn K (.ref EO) (.ref EO) = some true)
    (lI : K.lookup fI = some ⟨ocI, odI, .func (PySem.W.ksFn "__init__" "OutOfRange.__init__" (defArgs mOInit) (defBody mOInit) (defScope mOInit) .none kVI dcI pmI anI (.ref cdaI) ctI ccI), slI⟩)
    (cI : PySem.W.codeIn K (.ref cdaI) "OutOfRange.__init__" = true)
    (liI : K.lookup cdaI = some ⟨cclI, cddI, .fields vsI, ccsI⟩)
    (fvI : vsI[2]? = some (.str fileI tfI))
    (ffI : ((l.prog.main.file : Str) == fileI) = true)
    (ceI : K.lookup ccI = some ⟨clI, cldI, .cell (some (.ref EO)), cslI⟩)
    (mrO : PySem.W.mroIn K EO (.ref EO) = some true)
    (opq : PySem.W.nsIn K cStatics "thirdparty.any" = some none)
    (inS : PySem.W.ks_superIn K EO EO "__init__" = some (some (.builtin "ValueError.__init__")))
    (sPM : PySem.W.subIn K (.ref EP) (.ref EM) = some true)
    (sPO : PySem.W.subIn K (.ref EP) (.ref EO) = some false)
    (tyM : PySem.W.typeIn K (.ref EM) = some (.type "type"))
    (icM : PySem.W.isClsIn K EM = true)
    (eCM : PySem.W.subIn K (.ref EM) (.type "BaseException") = some true)
    (isVE : PySem.W.subIn K (.ref EO) (.type "ValueError") = some true)
    (topN : (l.prog.main.scope.names.lookup ("super" : Str)).isSome = false)
    (tlN : K.lookup tcN = some ⟨teN, tdN, .fields tuN, tsN⟩)
    (tkN : tuN[11]? = some (.ref tpN))
    (toN : K.lookup tpN = none)
    (tqN : ((recsOf q).any fun r => r.name == ("is_name" : Str)) = true)
    (tlV : K.lookup tcV = some ⟨teV, tdV, .fields tuV, tsV⟩)
    (tkV : tuV[11]? = some (.ref tpV))
    (toV : K.lookup tpV = none)
    (tqV : ((recsOf q).any fun r => r.name == ("is_value" : Str)) = true)
    (nNV : tpN ≠ tpV) :
    LawG l w K CX0 9 63 "script" mg fa h := by
  have g : ∀ {x : Str} {v : Value}, PySem.W.nsIn K mainGlobals x = some (some v) → mg x = some v := fun e => PySem.W.mg_of X G e
  have gz : ∀ {x : Str}, PySem.W.nsIn K mainGlobals x = some none → mg x = none := fun e => PySem.W.mg_none_of X G e
  have e := hfa.symm.trans (g a12)
  cases e
  have F1 := fun_mk (st := sIsName) l1 c1 k1
  have b1 := F1.binds (ps := ["text"]) fun _ _ _ _ _ _ us hl => match us, hl with | [_], _ => rfl
  have F2 := fun_mk (st := sIsValue) l2 c2 k2
  have b2 := F2.binds (ps := ["value"]) fun _ _ _ _ _ _ us hl => match us, hl with | [_], _ => rfl
  have F3 := fun_mk (st := sAreA) l3 c3 k3
  have b3 := F3.binds (ps := ["values"]) fun _ _ _ _ _ _ us hl => match us, hl with | [_], _ => rfl
  have F4 := fun_mk (st := sChkA) l4 c4 k4
  have b4 := F4.binds (ps := ["values"]) fun _ _ _ _ _ _ us hl => match us, hl with | [_], _ => rfl
  have F5 := fun_mk (st := sChk) l5 c5 k5
  have b5 := F5.binds (ps := ["module", "name", "arguments"]) fun _ _ _ _ _ _ us hl => match us, hl with | [_, _, _], _ => rfl
  have F6 := fun_mk (st := sCell) l6 c6 k6
  have b6 := F6.binds (ps := ["script", "k"]) fun _ _ _ _ _ _ us hl => match us, hl with | [_, _], _ => rfl
  have F7 := fun_mk (st := sDigits) l7 c7 k7
  have b7 := F7.binds (ps := ["script", "first", "last"]) fun _ _ _ _ _ _ us hl => match us, hl with | [_, _, _], _ => rfl
  have F8 := fun_mk (st := sDraw) l8 c8 k8
  have b8 := F8.binds (ps := ["box", "many"]) fun _ _ _ _ _ _ us hl => match us, hl with | [_, _], _ => rfl
  have F9 := fun_mk (st := sAlike6) l9 c9 k9
  have b9 := F9.binds (ps := ["one", "two"]) fun _ _ _ _ _ _ us hl => match us, hl with | [_, _], _ => rfl
  have F10 := fun_mk (st := sBegun) l10 c10 k10
  have b10 := F10.binds (ps := ["holder", "module", "name", "arguments"]) fun _ _ _ _ _ _ us hl => match us, hl with | [_, _, _, _], _ => rfl
  have F11 := fun_mk (st := sBegins) l11 c11 k11
  have b11 := F11.binds (ps := ["box", "holder", "number", "done", "waiting"]) fun _ _ _ _ _ _ us hl => match us, hl with | [_, _, _, _, _], _ => rfl
  have F12 := fun_mk (st := sLaw) l12 c12 k12
  have F13 := fun_mk (st := mHInit) l13 c13 k13
  have b13 := F13.binds (ps := ["self", "number"]) fun _ _ _ _ _ _ us hl => match us, hl with | [_, _], _ => rfl
  have F14 := fun_mk (st := mBegin) l14 c14 k14
  have b14 := F14.binds (ps := ["self", "module", "name", "arguments"]) fun _ _ _ _ _ _ us hl => match us, hl with | [_, _, _, _], _ => rfl
  have F15 := fun_mk (st := mWanted) l15 c15 k15
  have b15 := F15.binds (ps := ["self"]) fun _ _ _ _ _ _ us hl => match us, hl with | [_], _ => rfl
  have F16 := fun_mk (st := mHear) l16 c16 k16
  have b16 := F16.binds (ps := ["self", "letter"]) fun _ _ _ _ _ _ us hl => match us, hl with | [_, _], _ => rfl
  have F17 := fun_mk (st := mDone) l17 c17 k17
  have b17 := F17.binds (ps := ["self"]) fun _ _ _ _ _ _ us hl => match us, hl with | [_], _ => rfl
  have hN := TB "is_name" f1 tcN tpN _ _ teN tdN tuN tsN tqN (g a1) l1 rfl rfl tlN tkN
  have hV := TB "is_value" f2 tcV tpV _ _ teV tdV tuV tsV tqV (g a2) l2 rfl rfl tlV tkV
  refine ⟨PySem.W.fnOf "law" "law" (defArgs sLaw) (defBody sLaw) (defScope sLaw) .none kV12 dc12 pm12 an12 cd12 ct12, [(tcN, tpN), (tcV, tpV)], spLaw K tpN tpV, fun p hp => ?_, fun p hp => ?_, fun p hp => ?_, fun s u => .of_eq rfl, fun H a ns hl _ hT hS => ?_, fun base _ _ hTB => ?_⟩
  · rcases List.mem_cons.mp hp with rfl | hp
    · exact hN.1
    rw [List.mem_singleton.mp hp]
    exact hV.1
  · rcases List.mem_cons.mp hp with rfl | hp
    · exact toN
    rw [List.mem_singleton.mp hp]
    exact toV
  · rcases List.mem_cons.mp hp with rfl | hp
    · exact hN.2
    rw [List.mem_singleton.mp hp]
    exact hV.2
  · refine ⟨a, ns, rfl, hS, ⟨⟨#[], hT (tcN, tpN) List.mem_cons_self, trivial⟩, ⟨#[], hT (tcV, tpV) (List.mem_cons_of_mem _ List.mem_cons_self), trivial⟩⟩, fun _ => rfl⟩
  ·
    have tbN := hTB (tcN, tpN) List.mem_cons_self
    have tbV := hTB (tcV, tpV) (List.mem_cons_of_mem _ List.mem_cons_self)
    have T : Txt K mg := ⟨gz z_len, gz z_range, gz z_bint, gz z_blist, gz z_repr⟩
    have T3 : Txt61 K mg := ⟨gz z_len, gz z_bint, gz z_bstr, gz z_bbool, gz z_isinstance, gz z_all, ⟨_, g y_NAME_MOST⟩, ⟨_, g y_NUMBER_MOST⟩, ⟨_, g y_STRING_MOST⟩, ⟨_, g y_CHARACTERS⟩, ⟨_, g y_LETTERS⟩, ⟨ra, g uRA, fun H => .inr ⟨_, iR, nR, uRL, rfl, rfl, uRZ, vals_strs _ _ uRV⟩⟩⟩
    have T7 : Txt7 mg := ⟨gz z_btuple, gz z_max, gz z_isinstance⟩
    have TH : TxH K mg CH := ⟨⟨pgH, hdH, poH, saH⟩, naH0, naH1, naH2, g gH⟩
    have oc : OexC K EO := ⟨⟨nmO, qO, NO, bsO, bmO, snO, subO, abO, colO, ddO, k0O, k1O, k2O, k3O, k5O, xLO, rO⟩, saO, eCO, tCO, kCO⟩
    have TO : TxO K mg EO fI := ⟨g gO, oc, iO, tyI, nnO, ⟨gaO, ggO, eCO, hdO⟩, exm_no eCO icO tCO sCO⟩
    have SK : SupK l.prog K mg "__init__" "OutOfRange.__init__" mOInit fI ccI cdaI EO := ⟨⟨_, _, _, _, _, _, _, _, lI⟩, cI, ⟨_, _, _, _, _, _, liI, fvI, ffI⟩, ⟨_, _, _, ceI⟩, mrO, gz z_super, opq, inS, isVE, topN, oc⟩
    obtain ⟨fdI, bI, FI⟩ := ok_oinit (w := w) (base := base) SK nnO
    have TP : TxP K mg "AtWork" EP := ⟨g xP, exP, ekP, ebP, etP⟩
    have TE : TxE K mg EO EP EM := ⟨g gM, exm_no eCO icO tCO sCO, exm_no eCO icO tCO sPO, exm_no eCM icM tyM sPM, ⟨hgP, hkP, ebP, hdP, haP, hnP, htP, hmP⟩, kit_same⟩
    have oCell := ok_cell (P := l.prog) (w := w) (base := base) F6 T
    have oDraw := ok_draw (P := l.prog) (w := w) (base := base) F8 T
    have oDig := ok_digits F7 T oCell (g a6) k6 b6
    have oVal := ok_value (P := l.prog) (w := w) (base := base) l2 c2 rfl tbV T3
    have oNam := ok_name (P := l.prog) (w := w) (base := base) l1 c1 rfl tbN T3
    have oAre := ok_areA F3 T T3 ⟨_, g y_ARGUMENTS_MOST⟩ nNV ⟨g a2, k2, b2, oVal⟩
    have oChkA := ok_chkA F4 TO bI FI ⟨g a3, k3, b3, oAre⟩
    have oChk := ok_chk F5 TO nNV bI FI ⟨g a1, k1, b1, oNam⟩ ⟨g a4, k4, b4, oChkA⟩
    have oHI := ok_hinit (P := l.prog) (w := w) (base := base) (mg := mg) F13 TH
    have oWa := ok_wanted (P := l.prog) (w := w) (base := base) F15 TH
    have oHe := ok_hear (P := l.prog) (w := w) (base := base) F16 TH
    have oDo := ok_done (P := l.prog) (w := w) (base := base) F17 T TH
    have oBeg := ok_begin F14 T T7 TH TP ⟨g a5, k5, b5, oChk⟩
    have oBegun := ok_begun F10 T T7 TH TO TP TE ⟨a14, i14, k14⟩ b14 oBeg
    have oAl := ok_alike6 (P := l.prog) (w := w) (base := base) F9 T
    have oBegins := ok_begins F11 T ⟨g a8, k8, b8, oDraw⟩ ⟨g a10, k10, b10, oBegun⟩ oAl (g a9) k9 b9
    exact ok_law61 F12 T T7 TH ⟨mkH, a13, i13, kcH⟩ b13 oHI ⟨g a7, k7, b7, oDig⟩ ⟨g a8, k8, b8, oDraw⟩ oBegins (g a11) k11 b11 oAl (g a9) k9 b9 ⟨⟨a16, i16, k16⟩, b16, oHe⟩ ⟨⟨a15, i15, k15⟩, b15, oWa⟩ ⟨⟨a17, i17, k17⟩, b17, oDo⟩
end K5

open PySem PySem.W PyProof.Rows
set_option maxRecDepth 100000 in
set_option maxHeartbeats 0 in
theorem PySem.Challenge.cw_sameasnew_k61_holders_holds : PySem.Challenge.rw_sameasnew_k61_holders.Holds := by
  w_on; o_law; k_head; (case hw => w_witness2)
  k_fill
  refine GD.walk_ofG (l := PySem.Challenge.rw_sameasnew_k61_holders) (n := 63) (k := 9) (x := "script") (CX := fun _ => L2.CX0) rfl (by decide) rfl ⟨rfl, by decide, by decide⟩ (fun w h Y => PySem.W.kIn_of Y) ?F (fun _ _ _ _ _ h => h)
  case F =>
    intro w mg fa h Y KX G hmg TB
    refine' K5.end_at KX G hmg TB ?gH ?xP ?a1 ?l1 ?c1 ?k1 ?a2 ?l2 ?c2 ?k2 ?a3 ?l3 ?c3 ?k3 ?a4 ?l4 ?c4 ?k4 ?a5 ?l5 ?c5 ?k5 ?a6 ?l6 ?c6 ?k6 ?a7 ?l7 ?c7 ?k7 ?a8 ?l8 ?c8 ?k8 ?a9 ?l9 ?c9 ?k9 ?a10 ?l10 ?c10 ?k10 ?a11 ?l11 ?c11 ?k11 ?a12 ?l12 ?c12 ?k12 ?a13 ?i13 ?l13 ?c13 ?k13 ?a14 ?i14 ?l14 ?c14 ?k14 ?a15 ?i15 ?l15 ?c15 ?k15 ?a16 ?i16 ?l16 ?c16 ?k16 ?a17 ?i17 ?l17 ?c17 ?k17 ?pgH ?hdH ?poH ?saH ?mkH ?kcH ?naH0 ?naH1 ?naH2 ?exP ?ekP ?ebP ?etP ?eiP ?esP ?z_len ?z_range ?z_bint ?z_blist ?z_repr ?z_bstr ?z_bbool ?z_isinstance ?z_all ?z_btuple ?z_max ?z_super ?y_NAME_MOST ?y_NUMBER_MOST ?y_STRING_MOST ?y_ARGUMENTS_MOST ?y_CHARACTERS ?y_LETTERS ?uRA ?uRL ?uRZ ?uRV ?hdP ?hgP ?hkP ?haP ?hnP ?htP ?hmP ?gO ?gM ?xLO ?rO ?saO ?gaO ?ggO ?nnO ?iO ?tyI ?kCO ?eCO ?tCO ?hdO ?icO ?sCO ?lI ?cI ?liI ?fvI ?ffI ?ceI ?mrO ?opq ?inS ?sPM ?sPO ?tyM ?icM ?eCM ?isVE ?topN ?tlN ?tkN ?toN ?tqN ?tlV ?tkV ?toV ?tqV ?nNV
    (case gH => k_is)
    (case xP => k_is)
    (case a1 => k_is)
    (case l1 => k_is)
    (case c1 => k_is)
    (case k1 => k_is)
    (case a2 => k_is)
    (case l2 => k_is)
    (case c2 => k_is)
    (case k2 => k_is)
    (case a3 => k_is)
    (case l3 => k_is)
    (case c3 => k_is)
    (case k3 => k_is)
    (case a4 => k_is)
    (case l4 => k_is)
    (case c4 => k_is)
    (case k4 => k_is)
    (case a5 => k_is)
    (case l5 => k_is)
    (case c5 => k_is)
    (case k5 => k_is)
    (case a6 => k_is)
    (case l6 => k_is)
    (case c6 => k_is)
    (case k6 => k_is)
    (case a7 => k_is)
    (case l7 => k_is)
    (case c7 => k_is)
    (case k7 => k_is)
    (case a8 => k_is)
    (case l8 => k_is)
    (case c8 => k_is)
    (case k8 => k_is)
    (case a9 => k_is)
    (case l9 => k_is)
    (case c9 => k_is)
    (case k9 => k_is)
    (case a10 => k_is)
    (case l10 => k_is)
    (case c10 => k_is)
    (case k10 => k_is)
    (case a11 => k_is)
    (case l11 => k_is)
    (case c11 => k_is)
    (case k11 => k_is)
    (case a12 => k_is)
    (case l12 => k_is)
    (case c12 => k_is)
    (case k12 => k_is)
    (case a13 => k_is)
    (case i13 => k_is)
    (case l13 => k_is)
    (case c13 => k_is)
    (case k13 => k_is)
    (case a14 => k_is)
    (case i14 => k_is)
    (case l14 => k_is)
    (case c14 => k_is)
    (case k14 => k_is)
    (case a15 => k_is)
    (case i15 => k_is)
    (case l15 => k_is)
    (case c15 => k_is)
    (case k15 => k_is)
    (case a16 => k_is)
    (case i16 => k_is)
    (case l16 => k_is)
    (case c16 => k_is)
    (case k16 => k_is)
    (case a17 => k_is)
    (case i17 => k_is)
    (case l17 => k_is)
    (case c17 => k_is)
    (case k17 => k_is)
    (case pgH => k_is)
    (case hdH => k_is)
    (case poH => k_is)
    (case saH => k_is)
    (case mkH => k_is)
    (case kcH => k_is)
    (case naH0 => k_is)
    (case naH1 => k_is)
    (case naH2 => k_is)
    (case exP => k_exc)
    (case ekP => k_is)
    (case ebP => k_is)
    (case etP => k_is)
    (case eiP => k_is)
    (case esP => first | rfl | k_is)
    (case z_len => k_is)
    (case z_range => k_is)
    (case z_bint => k_is)
    (case z_blist => k_is)
    (case z_repr => k_is)
    (case z_bstr => k_is)
    (case z_bbool => k_is)
    (case z_isinstance => k_is)
    (case z_all => k_is)
    (case z_btuple => k_is)
    (case z_max => k_is)
    (case z_super => k_is)
    (case y_NAME_MOST => k_is)
    (case y_NUMBER_MOST => k_is)
    (case y_STRING_MOST => k_is)
    (case y_ARGUMENTS_MOST => k_is)
    (case y_CHARACTERS => k_is)
    (case y_LETTERS => k_is)
    (case uRA => k_is)
    (case uRL => k_is)
    (case uRZ => decide)
    (case uRV => rfl)
    (case hdP => k_is)
    (case hgP => k_is)
    (case hkP => k_is)
    (case haP => k_is)
    (case hnP => k_is)
    (case htP => k_is)
    (case hmP => k_is)
    (case gO => k_is)
    (case gM => k_is)
    (case xLO => k_is)
    (case rO => decide +kernel)
    (case saO => k_is)
    (case gaO => k_is)
    (case ggO => k_is)
    (case nnO => k_is)
    (case iO => k_is)
    (case tyI => k_is)
    (case kCO => k_is)
    (case eCO => k_is)
    (case tCO => k_is)
    (case hdO => k_is)
    (case icO => k_is)
    (case sCO => first | rfl | k_is)
    (case lI => k_is)
    (case cI => k_is)
    (case liI => k_is)
    (case fvI => rfl)
    (case ffI => first | rfl | decide +kernel)
    (case ceI => k_is)
    (case mrO => first | k_is | rfl)
    (case opq => k_is)
    (case inS => first | rfl | kernel_rfl | decide +kernel)
    (case sPM => first | k_is | rfl)
    (case sPO => first | k_is | rfl)
    (case tyM => k_is)
    (case icM => k_is)
    (case eCM => k_is)
    (case isVE => k_is)
    (case topN => first | rfl | decide +kernel)
    (case tlN => k_is)
    (case tkN => rfl)
    (case toN => first | rfl | kernel_rfl | decide +kernel)
    (case tqN => decide +kernel)
    (case tlV => k_is)
    (case tkV => rfl)
    (case toV => first | rfl | kernel_rfl | decide +kernel)
    (case tqV => decide +kernel)
    (case nNV => decide)
