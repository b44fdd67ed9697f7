import PyProof.Rows.All
import Wide.All
import OpenK.AllK
import Wide.FinOn
import HandS.ForMost
import HandS.AnyAll
import HandS.EndTab
import PyProof.GenCompD
import HandS.Codes
import KE.KIntText
import HandS.StrMore
import HandS.IsInst
import HandS.ExcInit
import HandS.Nested
import KE.KExcSuper
import HandS.TryMany
import HandS.ExcField
import HandS.ExcIs
import HandS.Walk
import HandS.FStr
import HandS.Text
import HandS.Strs
import HandS.TupSets
import HandS.ReplaceLit
import HandS.StrSplit
import HandS.ReplaceList
import HandS.Star
import HandS.RaiseMore
import PyProof.Rows.StrDigitsNeg
import HandS.TryOnly
import HandS.DictComp
import HandS.WordsExc
import HandS.ExcOwn
import KE.GoesEnumKw
import HandS.Deep
import PySem.Challenge.RW_sameasnew_k48_log_under_cuts
set_option Elab.async false
set_option linter.all false
set_option maxRecDepth 100000
set_option maxHeartbeats 4000000
/-! My own small layer over HandS: promises of defs that hold where no repr is under way (guards = []), the repr of data, the end with tables. -/
namespace GD
open PySem PySem.Spec PyProof.Rows L2

/-- a promise that is kept where nothing is being shown -/
structure FnG (P : Program) (w : World) (K : PySem.W.Frag) (mg : Str → Option Value) (base : Heap)
    (CX : CXT) (k : Nat) (f : Addr) (fd : FuncData) (ps : List Str) (sp : Sp) : Prop where
  size : ∀ vs H Q E, sp vs H Q E → vs.length = ps.length
  go : ∀ (A : Around) (outer : List Env) (s : Shared) (H : Hp) (args : Args) (us : List Value)
    (vs : List V) (Q : VK) (E : XK), A.guards = some [] → Room k A →
    Env0 P w K mg base A outer s H → BindsTo s fd args (ps.zip us) → Vals vs us → sp vs H Q E →
    codeAny (model P w) A (.call (.ref f) args) (CR CX outer P w H s Q E) s

section
variable {P : Program} {w : World} {K : PySem.W.Frag} {mg : Str → Option Value} {base : Heap}
variable {CX : CXT} {k : Nat} {f : Addr} {fd : FuncData} {ps : List Str} {sp : Sp}
theorem FnG.of (F : FnOk P w K mg base CX k f fd ps sp) : FnG P w K mg base CX k f fd ps sp :=
  ⟨F.len, fun A outer s H args us vs Q E _ => F.run A outer s H args us vs Q E⟩

/-- a def of the text by its body, with what is known of the guards -/
theorem fnG_of {name qual : Str} {params : Arguments} {body : List Stmt} {scope : Scope}
    {dV kV doc pm cdv ct oc : Value} {an od : Option Addr} {osl : Array (Option Value)} {N : List Str}
    (lk : K.lookup f = some ⟨oc, od, .func (PySem.W.fnOf name qual params body scope dV kV doc pm an cdv ct), osl⟩)
    (hcd : PySem.W.codeIn K cdv qual = true) (S : FnScope N ps scope)
    (size : ∀ vs H Q E, sp vs H Q E → vs.length = ps.length)
    (hbody : ∀ (A : Around) (outer : List Env) (s : Shared) (H : Hp) (vs : List V) (Q : VK) (E : XK),
      (A.deeper (envOfC qual scope s.heap.objs.size f cdv)).guards = some [] →
      Room k (A.deeper (envOfC qual scope s.heap.objs.size f cdv)) → sp vs H Q E →
      ∃ t, PSs (cxOf CX P w K mg base N qual scope f cdv A outer s H E) body t ∧
        t { nx := fun _ H' => Q .non H', rt := Q } (start N vs) H) :
    FnG P w K mg base CX (k + 1) f (PySem.W.fnOf name qual params body scope dV kV doc pm an cdv ct) ps sp := by
  refine ⟨size, fun A outer s H args us vs Q E hgd hr z0 hb r hs => ?_⟩
  have hl := size _ _ _ _ hs
  have kx : K.In s.heap := z0.mod.kin.keeps fun b o e => (z0.bs b o e).1
  have nl : s.heap.NoLimit := z0.mod.nolimit.keeps fun b o e => (z0.bs b o e).1
  have kind : ∀ y ∈ ps.zip us, scope.names.lookup y.1 = some .local ∨
      (scope.names.lookup y.1 = some .cell ∧
        ((cellsFrom (s.heap.objs.size + 1) scope.names []).lookup y.1).isSome = true) := by
    rintro ⟨n, v⟩ hy
    rcases S.par n (List.of_mem_zip hy).1 with q | q
    · exact .inl q
    · exact .inr ⟨q, PySem.W.cellsFrom_some _ _ _ (.inl q)⟩
  refine codeAny_call_function hr.depth (kx _ _ lk) rfl S.co S.gen rfl (PySem.W.codeRec_of kx hcd) (hb _ _ _ _ ?_)
  refine wpAny_newFunctionEnv_cells S.kind kind fun env he s1 x => ?_
  subst he
  refine ⟨nl.keeps x.toInCall.keep, codeAny_func ?_⟩
  obtain ⟨t, ht, hq⟩ := hbody A outer s H vs Q E hgd (hr.deeper _) hs
  have J := inv_start (CX := CX) (E := E) (qual := qual) (f := f) (cd := cdv) S hr.hd z0 hl r x
  refine wpAny_mono (ht.run [] s1 (start N vs) H _ J hq) (fun fl s' hs' => ?_) fun e s' hs' => hs'
  cases fl with
  | ret u =>
    obtain ⟨v, σ2, H2, I2, rv, q⟩ := hs'
    exact ⟨v, H2, I2.os, I2.bare, I2.base, I2.hok, rv, q⟩
  | next =>
    obtain ⟨σ2, H2, I2, q⟩ := hs'
    exact ⟨V.non, H2, I2.os, I2.bare, I2.base, I2.hok, rfl, q⟩
  | brk =>
    obtain ⟨_, _, _, q⟩ := hs'
    exact q.elim
  | cont =>
    obtain ⟨_, _, _, q⟩ := hs'
    exact q.elim

theorem okG {x qual : Str} {st : Stmt} {N : List Str} (F : Fun K x qual st f fd) (S : FnScope N ps (defScope st))
    (size : ∀ vs H Q E, sp vs H Q E → vs.length = ps.length)
    (hbody : ∀ (cdv : Value) (A : Around) (outer : List Env) (s : Shared) (H : Hp) (vs : List V) (Q : VK) (E : XK),
      (A.deeper (envOfC qual (defScope st) s.heap.objs.size f cdv)).guards = some [] →
      Room k (A.deeper (envOfC qual (defScope st) s.heap.objs.size f cdv)) → sp vs H Q E →
      ∃ t, PSs (cxOf CX0 P w K mg base N qual (defScope st) f cdv A outer s H E).nox (defBody st) t ∧
        t { nx := fun _ H' => Q .non H', rt := Q } (start N vs) H) :
    FnG P w K mg base CX0 (k + 1) f fd ps sp := by
  obtain ⟨oc, od, kV, doc, pm, an, cdv, ct, osl, rfl, lk, hcd⟩ := F.ex
  refine fnG_of lk hcd S size fun A outer s H vs Q E hgd hr hs => ?_
  obtain ⟨t, h, q⟩ := hbody cdv A outer s H vs Q E hgd hr hs
  exact ⟨t, h.nox, q⟩

/-- a def of the text, where its code object is asked for: k is what stands of it in the written part -/
theorem okC {x qual : Str} {st : Stmt} {N : List Str} {oc : Value} {od an : Option Addr} {osl : Array (Option Value)} {kV doc pm cdv ct : Value}
    (lk : K.lookup f = some ⟨oc, od, .func (PySem.W.fnOf x qual (defArgs st) (defBody st) (defScope st) .none kV doc pm an cdv ct), osl⟩)
    (hcd : PySem.W.codeIn K cdv qual = true) (S : FnScope N ps (defScope st))
    (size : ∀ vs H Q E, sp vs H Q E → vs.length = ps.length)
    (hbody : ∀ (A : Around) (outer : List Env) (s : Shared) (H : Hp) (vs : List V) (Q : VK) (E : XK),
      Room k (A.deeper (envOfC qual (defScope st) s.heap.objs.size f cdv)) → sp vs H Q E →
      ∃ t, PSs (cxOf CX0 P w K mg base N qual (defScope st) f cdv A outer s H E).nox (defBody st) t ∧
        t { nx := fun _ H' => Q .non H', rt := Q } (start N vs) H) :
    FnOk P w K mg base CX0 (k + 1) f (PySem.W.fnOf x qual (defArgs st) (defBody st) (defScope st) .none kV doc pm an cdv ct) ps sp := by
  refine fn_of lk hcd S size fun A outer s H vs Q E hr hs => ?_
  obtain ⟨t, h, q⟩ := hbody A outer s H vs Q E hr hs
  exact ⟨t, h.nox, q⟩
end

section
variable {X : Cx} {CX : CXT} {k : Nat} {f : Addr} {fd : FuncData} {ps : List Str} {sp : Sp} {dvs : List V}
variable {ds : List Value} {E : XK} {x : Str} {p pos : Pos} {e : Expr} {es : List Expr} {t : TA}
/-- a call of such a def -/
theorem pe_callG (F : FnG X.prog X.w X.K X.mg X.base CX k f fd ps sp) (hgd : X.A.guards = some []) (hr : Room k X.A) (hg : Gl X x)
    (hm : X.mg x = some (.ref f)) (hk : PySem.W.keepIn X.K (.ref f) = true) (hb : Binds X.K fd ps ds) (hd : Vals dvs ds) (hx : Passes CX X E)
    (ha : PA X (e :: es) t) (hdb : (x == ("__debug__" : Str)) = false := by decide)
    (he : starEach (e :: es) X.env = (false, eval e X.env) :: starEach es X.env := by rfl)
    (hpl : (backTo pos (starEach es X.env)).any (·.1) = false := by rfl) :
    PE X (.Call (.Name x p) (e :: es) [] pos) (tCall sp dvs E t) := by
  refine ⟨fun pins s σ H Q I h => wpAny_Call_Name_kw (ld_glob I hg hm ?_ hdb)⟩
  refine PySem.W.callWith_K (h₀ := X.base) I.ok.mod.kin hk (thn (ha.run pos pins s σ H _ I h) fun us s1 hh => ?_) he hpl
  obtain ⟨vs, H1, I1, r, q⟩ := hh
  refine ⟨I1.kIn, ?_⟩
  have r2 : Vals (vs ++ dvs) (us ++ ds) := r.append hd
  have hl : (us ++ ds).length = ps.length := by
    rw [← r2.length]
    exact F.size _ _ _ _ q
  refine wpAny_call (codeAny_mono (F.go X.A X.stack s1 H1 ⟨us, []⟩ (us ++ ds) (vs ++ dvs) Q E hgd hr I1.env0 (hb s1 us I1.kIn hl) r2 q) fun r s' hq => ?_)
  cases r with
  | error e => exact hx pins σ H1 s1 e s' I1 hq
  | ok fl =>
    cases fl with
    | ret u => exact I1.after hq
    | next => exact hq.elim
    | brk => exact hq.elim
    | cont => exact hq.elim

/-! ### repr of data -/
/-- repr(x) of none-free data: what it shows -/
theorem cr_repr (hgd : X.A.guards = some []) (hu : X.A.units + 64 < cLine) : CallR X (.builtin "repr") (fun xs H Q => ∃ (v : V) (d : PyData), xs = [v] ∧ Dp X.K H v d ∧ d ≠ .none ∧
    d.showable = true ∧ d.hasDict = false ∧ d.depth ≤ 60 ∧ d.shown.length ≤ sizeLine ∧ Q (.str d.shown) H) := by
  intro pins s σ H xs us Q I r h
  obtain ⟨v, d, rfl, hd, hnn, hs, hn, hdp, hz, q⟩ := h
  obtain ⟨u, rfl, ru⟩ := vals1 r
  have fin : ∀ tk, EP X pins σ Q (.str d.shown tk) s := fun tk => ⟨.str _, H, I, ⟨_, rfl⟩, q⟩
  cases hd with
  | non => exact absurd rfl hnn
  | bl b =>
    obtain rfl : u = Value.bool b := ru
    refine PySem.P.repr_of_bool ?_
    have e : (PyData.bool b).shown = (if b then ("True" : Str) else "False") := by
      simp only [PyData.shown]
    rw [e] at q
    cases b
    · exact ⟨.str _, H, I.tok _, ⟨_, rfl⟩, q⟩
    · exact ⟨.str _, H, I.tok _, ⟨_, rfl⟩, q⟩
  | int i =>
    obtain ⟨t, rfl⟩ := ru
    refine PySem.P.repr_of_int ?_ ⟨.str _, H, I.tok _, ⟨_, rfl⟩, ?_⟩
    · simpa only [PyData.showable, decide_eq_true_eq] using hs
    · simpa only [PyData.shown] using q
  | str a =>
    obtain ⟨t, rfl⟩ := ru
    refine PySem.P.repr_of_str ⟨.str _, H, I.tok _, ⟨_, rfl⟩, ?_⟩ ?_
    · simpa only [PyData.shown] using q
    · simpa only [PyData.shown] using hz
  | lst hs' ha' =>
    obtain rfl : u = Value.ref _ := ru
    obtain ⟨as, rr⟩ := Dp.reads I _ _ _ (Dp.lst hs' ha') rfl
    exact repr_of_reads' rr hs (PyData.noDict_hsm hn) hgd (by omega) (fun _ _ e => e)
      (fun h' u tk hk => ⟨.str _, H, I.kept hk, ⟨_, rfl⟩, q⟩) hz
  | tup hs' ha' =>
    obtain rfl : u = Value.ref _ := ru
    obtain ⟨as, rr⟩ := Dp.reads I _ _ _ (Dp.tup hs' ha') rfl
    exact repr_of_reads' rr hs (PyData.noDict_hsm hn) hgd (by omega) (fun _ _ e => e)
      (fun h' u tk hk => ⟨.str _, H, I.kept hk, ⟨_, rfl⟩, q⟩) hz
end
end GD

set_option maxRecDepth 100000
set_option maxHeartbeats 4000000
namespace GD
open PySem PySem.Spec PyProof.Rows L2

/-- an empty table of a code object -/
abbrev tb0 : Obj := { cls := .none, data := .fields #[] }
/-- the script as it is laid -/
abbrev so (vs : List Value) : Obj := { cls := .type "list", data := .seq vs.toArray }
/-- at the entry: the tables at T, and the script unless it belongs to the written part -/
def atEntry (K : PySem.W.Frag) (T : List Addr) (a : Addr) (vs : List Value) (ns : List Int) : Hp := fun b =>
  if b ∈ T then some (.tbl #[]) else if b = a ∧ K.lookup a = none then some (.frz (so vs) (.lst (ns.map V.int))) else none

section
variable {P : Program} {w : World} {K : PySem.W.Frag} {mg mb : Str → Option Value} {CX : CXT} {k : Nat} {fa a : Addr}
variable {cs : List (Addr × Addr)} {fd : FuncData} {x : Str} {sp : Sp} {s₁ : Shared} {vs : List Value} {ns : List Int}
theorem entry_call (kx : K.In s₁.heap) (hns : s₁.heap.Ns mainGlobals mg) (hb : s₁.heap.Ns builtinsNs mb)
    (hbb : ∀ x : Str, x ≠ "__name__" → mb x = bootBuiltins x) (hlim : s₁.heap.NoLimit) (hg : s₁.gens = #[])
    (hT : ∀ p ∈ cs, s₁.heap.get? p.2 = some tb0) (nT : ∀ p ∈ cs, K.lookup p.2 = none) (C : ∀ p ∈ cs, PySem.W.CodeHd s₁.heap p.1 p.2)
    (hbm : ∃ (bm : Addr) (ob : Obj), mg "__builtins__" = some (.ref bm) ∧ bm ≠ builtinsNs ∧ s₁.heap.get? bm = some ob ∧
      ob.cls = .type "module" ∧ ob.dict = some builtinsNs ∧ ob.data = .plain)
    (ha : s₁.heap.get? a = some (so vs)) (hi : IntsAre vs ns) (hl : ns.length ≤ sizeLine) (hr : Room k callerA)
    (F : ∀ base : Heap, K.In base → base.Ns mainGlobals mg → (∀ p ∈ cs, GxR.TabB base mg p.1 p.2) → FnG P w K mg base CX k fa fd [x] sp)
    (hbind : ∀ (s : Shared) (u : Value), BindsTo s fd ⟨[u], []⟩ [(x, u)])
    (hsp : ∀ H : Hp, (∀ p ∈ cs, H p.2 = some (.tbl #[])) → SqL K H a (ns.map V.int) → sp [.ref a] H (fun v _ => v = .bl true) fun _ _ _ => False)
    (hCX : ∀ H e s', CX [] H s₁ (fun _ _ _ => False) e s' → False) :
    codeAny (model P w) callerA (.call (.ref fa) ⟨[.ref a], []⟩)
      (fun r s' => r = .ok (.ret (.bool true)) ∧ OldK s₁.heap s'.heap ∧ s'.os = s₁.os ∧ AllBare s'.gens) s₁ := by
  obtain ⟨T, eT⟩ : ∃ T, T = cs.map (·.2) := ⟨_, rfl⟩
  have inT : ∀ p ∈ cs, p.2 ∈ T := fun p hp => eT ▸ List.mem_map.mpr ⟨p, hp, rfl⟩
  have ofT : ∀ b ∈ T, s₁.heap.get? b = some tb0 ∧ K.lookup b = none := fun b hb => by
    rw [eT] at hb
    obtain ⟨p, hp, rfl⟩ := List.mem_map.mp hb
    exact ⟨hT p hp, nT p hp⟩
  have aT : a ∉ T := fun z => by
    have q := (ofT a z).1
    rw [ha] at q
    cases (congrArg Obj.data (Option.some.inj q) : Data.seq vs.toArray _ = Data.fields #[])
  have rv : Vals (ns.map V.int) vs := vals_ints hi
  obtain ⟨H, eH⟩ : ∃ H, H = atEntry K T a vs ns := ⟨_, rfl⟩
  have hTb : ∀ b ∈ T, H b = some (.tbl #[]) := fun b hb => by rw [eH]; exact if_pos hb
  have hAb : K.lookup a = none → H a = some (.frz (so vs) (.lst (ns.map V.int))) := fun z => by
    rw [eH]
    exact (if_neg aT).trans (if_pos ⟨rfl, z⟩)
  have hOt : ∀ b, b ∉ T → ¬(b = a ∧ K.lookup a = none) → H b = none := fun b h1 h2 => by
    rw [eH]
    exact (if_neg h1).trans (if_neg h2)
  have cases3 : ∀ b, (b ∈ T ∧ H b = some (.tbl #[])) ∨ ((b = a ∧ K.lookup a = none) ∧ H b = some (.frz (so vs) (.lst (ns.map V.int)))) ∨ (b ∉ T ∧ H b = none) := fun b => by
    by_cases h1 : b ∈ T
    · exact .inl ⟨h1, hTb b h1⟩
    · by_cases h2 : b = a ∧ K.lookup a = none
      · exact .inr (.inl ⟨h2, by rw [h2.1]; exact hAb h2.2⟩)
      · exact .inr (.inr ⟨h1, hOt b h1 h2⟩)
  have hok : HOk P w H s₁.heap := fun b u e => by
    rcases cases3 b with ⟨h1, h2⟩ | ⟨⟨rfl, h1⟩, h2⟩ | ⟨_, h2⟩
    · rw [h2] at e
      cases e
      exact (ofT b h1).1
    · rw [h2] at e
      cases e
      exact ⟨ha, by rw [List.length_map]; exact hl, vs, _, rv, ha⟩
    · rw [h2] at e
      cases e
  have hS : SqL K H a (ns.map V.int) := by
    cases hk : K.lookup a with
    | none => exact .inl (.inr ⟨so vs, hAb hk⟩)
    | some o =>
      have e := kx a o hk
      rw [ha] at e
      cases e
      exact .inr ⟨_, vs.toArray, _, hk, rfl, rfl, rfl, by rw [List.size_toArray, hi.length]; exact hl, by simpa using rv⟩
  -- what is neither a sequence nor an empty table is not tracked
  have plain : ∀ {b : Addr} {o : Obj}, s₁.heap.get? b = some o → (∀ us n, o.data ≠ .seq us n) → o.data ≠ .fields #[] → H b = none := fun {b o} e h1 h2 => by
    rcases cases3 b with ⟨q, _⟩ | ⟨⟨rfl, _⟩, _⟩ | ⟨_, q⟩
    · have q := (ofT b q).1
      rw [e] at q
      cases q
      exact (h2 rfl).elim
    · rw [ha] at e
      cases e
      exact (h1 _ _ rfl).elim
    · exact q
  have stay : ∀ {b : Addr} {o : Obj}, s₁.heap.get? b = some o → H b = none → (hidT s₁.heap H).get? b = some o := fun e n => hidT_get e n
  have nsB : ∀ {b : Addr} {m : Str → Option Value}, s₁.heap.Ns b m → (hidT s₁.heap H).Ns b m := fun {b m} ⟨o, es, ep, e, d, r⟩ =>
    ⟨o, es, ep, stay e (plain e (fun us n z => by rw [d] at z; cases z) fun z => by rw [d] at z; cases z), d, r⟩
  have kB : K.In (hidT s₁.heap H) := fun b o e => stay (kx b o e) (by
    rcases cases3 b with ⟨q, _⟩ | ⟨⟨rfl, q⟩, _⟩ | ⟨_, q⟩
    · rw [(ofT b q).2] at e
      cases e
    · rw [q] at e
      cases e
    · exact q)
  have mB : L2.Mod K mg (hidT s₁.heap H) := ⟨kB, nsB hns, ⟨mb, nsB hb, hbb⟩, let ⟨mc, h1, h2⟩ := hlim; ⟨mc, nsB h1, h2⟩⟩
  have notNs : ∀ b o, s₁.heap.get? b = some o → (∃ us, o.data = .fields us) ∨ o.data = .plain → mainGlobals ≠ b := fun b o e h z => by
    obtain ⟨o2, es, ep, e2, d, _⟩ := hns
    rw [z, e] at e2
    cases e2
    rcases h with ⟨us, h⟩ | h
    · rw [h] at d
      cases d
    · rw [h] at d
      cases d
  have tB : ∀ p ∈ cs, GxR.TabB (hidT s₁.heap H) mg p.1 p.2 := fun p hp => by
    have hp0 := hT p hp
    refine ⟨?_, ?_, notNs p.2 _ hp0 (.inl ⟨_, rfl⟩)⟩
    · obtain ⟨o, us, file, tf, flags, tg, inF, text, tt, e1, r1, r2, r3, rest⟩ := C p hp
      refine ⟨o, us, file, tf, flags, tg, inF, text, tt, stay e1 (plain e1 (fun vs n z => ?_) fun z => ?_), r1, r2, r3, rest⟩
      · rw [r2] at z
        cases z
      · rw [r2] at z
        cases z
        simp at r3
    · obtain ⟨bm, ob, b1, b2, b3, b4, b5, b6⟩ := hbm
      refine ⟨bm, ob, b1, b2, (notNs bm ob b3 (.inr b6)).symm, fun z => ?_, stay b3 (plain b3 (fun vs n z => ?_) fun z => ?_), b4, b5, b6⟩
      · rw [z, hp0] at b3
        cases b3
        cases b6
      · rw [b6] at z
        cases z
      · rw [b6] at z
        cases z
  have z0 : Env0 P w K mg (hidT s₁.heap H) callerA [] s₁ H :=
    ⟨rfl, mB, fun b o e => of_hidT e, Nat.le_of_eq (hidT_size _ _), trivial, (fun b hb => by cases hb), hok, .of_eq hg⟩
  refine codeAny_mono ((F _ kB (nsB hns) tB).go callerA [] s₁ H ⟨[.ref a], []⟩ [.ref a] [.ref a] _ _ rfl hr z0 (hbind s₁ (.ref a))
    (.cons rfl .nil) (hsp H (fun p hp => hTb p.2 (inT p hp)) hS)) fun r s' h => ?_
  cases r with
  | error e => exact (hCX H e s' h).elim
  | ok fl =>
    cases fl with
    | next => exact h.elim
    | brk => exact h.elim
    | cont => exact h.elim
    | ret u =>
      obtain ⟨v, H', os, bare, un, hok', r', q⟩ := h
      obtain rfl : v = .bl true := q
      obtain rfl : u = Value.bool true := r'
      have same : ∀ b o, b ∉ T → s₁.heap.get? b = some o → s'.heap.get? b = some o := fun b o nb e => by
        rcases cases3 b with ⟨q, _⟩ | ⟨_, q⟩ | ⟨_, q⟩
        · exact absurd q nb
        · obtain ⟨e1, _⟩ := hok b _ q
          obtain ⟨e2, _⟩ := hok' b _ (un.frzs b _ _ q)
          rw [e] at e1
          cases e1
          exact e2
        · exact un.keep b o e q (fun z => by cases z) (by simp)
      have grown : ∀ p ∈ cs, ∃ more : Array Value, s'.heap.get? p.2 = some { cls := .none, data := .fields more } := fun p hp => by
        obtain ⟨more, z⟩ := un.tbls p.2 #[] (hTb p.2 (inT p hp))
        exact ⟨_, hok' p.2 _ z⟩
      refine ⟨rfl, ⟨fun b o e => ?_, fun b o e => ?_⟩, os, bare⟩
      · by_cases hb : b ∈ T
        · rw [eT] at hb
          obtain ⟨p, hp, rfl⟩ := List.mem_map.mp hb
          obtain ⟨more, hm⟩ := grown p hp
          rw [hT p hp] at e
          cases e
          exact .inr (.inl ⟨((C p hp).tab (hT p hp)).isCodeTable, rfl, #[], more, rfl, by rw [Array.empty_append]; exact hm⟩)
        · exact .inl (same b o hb e)
      · by_cases hb : b ∈ T
        · rw [eT] at hb
          obtain ⟨p, hp, rfl⟩ := List.mem_map.mp hb
          obtain ⟨more, hm⟩ := grown p hp
          exact ⟨_, hm⟩
        · exact ⟨o, same b o hb e⟩
end

/-- the table of the top's def dn: its code object c, the table P -/
def TabsAt (q : Program) (K : PySem.W.Frag) (mg : Str → Option Value) (h : Heap) : Prop :=
  ∀ (dn : Str) (f c P : Addr) (o : Obj) (fd : FuncData) (e : Value) (dd : Option Addr) (us : Array Value) (sl : Array (Option Value)),
    ((recsOf q).any fun r => r.name == dn) = true → mg dn = some (.ref f) → K.lookup f = some o → o.data = .func fd → fd.code = .ref c →
    K.lookup c = some ⟨e, dd, .fields us, sl⟩ → us[11]? = some (.ref P) → h.get? P = some tb0 ∧ PySem.W.CodeHd h c P

/-- what is to be shown of the law's def at the head's heap h -/
def LawG (l : PySem.W.OpenLaw) (w : World) (K : PySem.W.Frag) (CX : CXT) (k n : Nat) (x : Str) (mg : Str → Option Value) (fa : Addr) (h : Heap) : Prop :=
  ∃ (fd : FuncData) (cs : List (Addr × Addr)) (sp : Sp), (∀ p ∈ cs, h.get? p.2 = some tb0) ∧ (∀ p ∈ cs, K.lookup p.2 = none) ∧
    (∀ p ∈ cs, PySem.W.CodeHd h p.1 p.2) ∧ (∀ (s : Shared) (u : Value), BindsTo s fd ⟨[u], []⟩ [(x, u)]) ∧
    (∀ (H : Hp) (a : Addr) (ns : List Int), ns.length ≤ n → (∀ z ∈ ns, Builtin.Int.intBits z ≤ 1048576) → (∀ p ∈ cs, H p.2 = some (.tbl #[])) →
      SqL K H a (ns.map V.int) → sp [.ref a] H (fun v _ => v = .bl true) fun _ _ _ => False) ∧
    ∀ base : Heap, K.In base → base.Ns mainGlobals mg → (∀ p ∈ cs, GxR.TabB base mg p.1 p.2) → FnG l.prog w K mg base CX k fa fd [x] sp

theorem walk_ofG {l : PySem.W.OpenLaw} {n k : Nat} {q : Program} {loose : List Str} {XP : (Str → Option Value) → Heap → Prop}
    {YP : World → Heap → Prop} {d : DefRec} {K : Params → PySem.W.Frag} {CX : World → CXT} {x : Str}
    (hn : l.most = some n) (hn2 : n ≤ sizeLine) (hdf : d.params.defaults = []) (hr : Room k callerA)
    (hY : ∀ (w : World) (h : Heap), YP w h → (K w.params).In h)
    (F : ∀ (w : World) (mg : Str → Option Value) (fa : Addr) (h : Heap), YP w h → (K w.params).In h → h.Ns mainGlobals mg →
      mg d.name = some (.ref fa) → TabsAt q (K w.params) mg h → LawG l w (K w.params) (CX w) k n x mg fa h)
    (hCX : ∀ (w : World) (H : Hp) (s : Shared) (e : Value) (s' : Shared), CX w [] H s (fun _ _ _ => False) e s' → False) :
    PySem.W.WalkO q loose XP YP l.row.toRowW d [] (fun f vs => PySem.call f vs) := by
  refine Att.attach_callB hn hdf fun w s₀ s₁ mg mb fa o pm cd doc a vs ns G Y ho hd hcd hmg hobj hints hlen hbits hg => ?_
  have kx := hY w _ Y
  have tabs : TabsAt q (K w.params) mg s₁.heap := fun dn f c P o fd e dd us sl h1 h2 h3 h4 h5 h6 h7 => by
    obtain ⟨r, hr1, hr2⟩ := List.any_eq_true.mp h1
    obtain rfl : r.name = dn := beq_iff_eq.mp hr2
    obtain ⟨a', o', fd', c', P', g1, g2, g3, g4, g5, g6⟩ := G.T.tab r hr1
    rw [h2] at g1
    cases g1
    have z1 := kx _ _ h3
    rw [z1] at g2
    cases g2
    rw [h4] at g3
    cases g3
    rw [h5] at g4
    cases g4
    have hd := PySem.W.CodeHd.of g5 g6
    obtain ⟨⟨oc, vc, e1, _, e3, e4⟩, hP⟩ := g6
    have z2 := kx _ _ h6
    rw [z2] at e1
    cases e1
    cases e3
    rw [h7] at e4
    cases e4
    exact ⟨hP, hd⟩
  obtain ⟨fd, cs, sp, hT, nT, C, hb, hsp, hF⟩ := F w mg fa _ Y kx G.T.g hmg tabs
  exact entry_call kx G.T.g G.T.b G.T.builtins G.T.nolimit hg hT nT C G.T.bmain hobj hints (Nat.le_trans hlen hn2) hr hF hb
    (fun H hH hS => hsp H a ns hlen hbits hH hS) fun H e s' => hCX w H s₁ e s'
end GD

set_option maxRecDepth 100000
set_option maxHeartbeats 4000000
namespace GD
open PySem PySem.Spec PyProof.Rows L2

/-- the element of a generator over the signs of a text, where it may call a def of the module: a test of the sign c -/
def EltD (X : Cx) (scope : Scope) (x : Str) (elt : Expr) (pb : Nat → Bool) : Prop :=
  ∀ (cenv : Env) (A' : Around) (E' : Value → Shared → Prop) (c : Nat) (t : Tok) (s₂ : Shared) (m₂ : Str → Option Value),
    cenv.scope = scope → cenv.globals = X.env.globals → A'.handled = none → A'.depth ≤ X.A.depth + 1 → A'.units ≤ X.A.units + 8 →
    (∀ b o, X.base.get? b = some o → s₂.heap.get? b = some o) → s₂.heap.Ns cenv.locals m₂ → m₂ x = some (.str ⟨#[c]⟩ t) →
    wpAny (model X.prog X.w) A' (eval elt cenv) (fun y s₃ => y = .bool (pb c) ∧ Keeps s₂ s₃) E' s₂

section
variable {X : Cx} {pins : List (Addr × Obj)} {σ : L2.St} {H : Hp} {s : Shared}
theorem gen_signs {c P : Addr} {elt iter : Expr} {x : Str} {px gpos : Pos} {scope : Scope} {pb : Nat → Bool} {te : TE} {k : Nat}
    {Q' : Value → Shared → Prop} {R : Str → Hp → Prop} (hr : Room k X.A) (TB : GxR.TabB X.base X.mg c P) (hcode : X.env.code = .ref c)
    (S : GxR.GenS X.env scope x) (hi : PE X iter te) (hel : L2.Mod X.K X.mg X.base → EltD X scope x elt pb) (hs : ∀ v, genFold iter X.env v = pure v) (I : Inv X pins σ H s)
    (h : te σ H fun v H1 => ∃ a : Str, v = .str a ∧ GxR.TabG H1 P ∧ R a H1)
    (hQ : ∀ a H1 g s5, R a H1 → GxR.Ready X pins σ H1 P a pb g s5 → Q' (.ref g) s5) :
    wpAny (model X.prog X.w) X.A (eval (.GeneratorExp elt [⟨.Name x px, iter, [], 0⟩] scope gpos) X.env) Q' X.xe s := by
  refine wpAny_GeneratorExp_walksQD hr.hd S.co (closure_ok S.free) S.cell S.dot S.loc S.kind (by have := hr.dp; omega) ?_ hs
  refine thn (hi.run pins s σ H _ I h) fun xv s1 hv => ?_
  obtain ⟨v, H1, I1, r1, a, rfl, ⟨ps, hP, ht⟩, q1⟩ := hv
  obtain ⟨t, rfl⟩ := _root_.id r1
  refine wpAny_pyIter_str fun o St W hst => ?_
  have hP1 : s1.heap.get? P = some { cls := .none, data := .fields ps } := I1.hok P _ hP
  have ltP : P < s1.heap.objs.size := Heap.lt_size hP1
  have up : ∀ b u, s1.heap.get? b = some u → (s1.heap.push o).get? b = some u := fun b u e => Heap.get?_push_of_some _ e
  have cd : PySem.W.CodeHd (s1.heap.push o) c P := TB.code.keeps fun b u e => up b u (I1.bk b u e)
  have nl2 : (s1.heap.push o).NoLimit := I1.nolimit.push o
  have sz2 : (s1.heap.push o).objs.size = s1.heap.objs.size + 1 := Heap.size_push ..
  have rest : ∀ (code : Value) (h3 : Heap) (tk : Nat) (qs : Array Value), Heap.ExtBut P (s1.heap.push o) h3 → (s1.heap.push o).objs.size ≤ h3.objs.size →
      h3.get? P = some { cls := .none, data := .fields qs } → (∃ more, qs = ps ++ more) → TriplesOk qs.toList →
      wpAny (model X.prog X.w) X.A (builtinsFor X.env.globals X.env.builtins) (fun bi s₄ =>
        ∃ Ia fp wr n₀ Pf St₀ pz F, Value.ref s1.heap.objs.size = .ref Ia ∧ (∀ A' : Around, A'.handled = none → Walks X.prog X.w A' Ia fp wr n₀ Pf St₀) ∧
          St₀ 0 s₄.heap ∧ (∀ b ∈ fp, b < s₄.heap.objs.size) ∧ s₄.heap.NoLimit ∧ cStatics ∉ wr ∧
          (∀ href : Heap, (∀ b o, s₄.heap.get? b = some o → href.get? b = some o) →
            QuietGenD X.prog X.w (genEnv scope (cloFrom X.env.cells scope.names []) s₄.heap.objs.size code bi X.env) x [] elt
              (List.range s₄.heap.objs.size) wr Pf pz F href (X.A.depth + 1) (X.A.units + 8)) ∧
          (∀ a h₅ tk gs, gs.bare = true → s₄.heap.objs.size < a → h₅.objs.size = a + 1 → (∀ b o, s₄.heap.get? b = some o → h₅.get? b = some o) →
            WalksS X.prog X.w X.A.in4 a (a :: s₄.heap.objs.size :: List.range s₄.heap.objs.size) (s₄.heap.objs.size :: wr) (GenOnlyQ s₄.gens.size)
              (passing pz n₀ 0).length (fun j y => ∃ i, (passing pz n₀ 0)[j]? = some i ∧ F i y)
              (GenAt X.prog X.w X.A.in4 a s₄.gens.size s₄.heap.objs.size (List.range s₄.heap.objs.size) wr pz n₀ F) →
            GenAt X.prog X.w X.A.in4 a s₄.gens.size s₄.heap.objs.size (List.range s₄.heap.objs.size) wr pz n₀ F 0 { s₄ with gens := s₄.gens.push gs, toks := tk, heap := h₅ } →
            Q' (.ref a) { s₄ with gens := s₄.gens.push gs, toks := tk, heap := h₅ })) X.xe { s1 with heap := h3, toks := tk } := by
    intro code h3 tk qs hx hsz hP3 hmore ht3
    obtain ⟨bm, ob, e1, e2, e3, e4, e5, e6, e7, e8⟩ := TB.bm
    have hcl : cStatics < s1.heap.objs.size := let ⟨_, hns, _⟩ := I1.nolimit; hns.lt
    have hcP : cStatics ≠ P := fun e => by
      obtain ⟨_, ⟨o', es, ep, ho, hd, _⟩, _⟩ := I1.nolimit
      rw [e, hP1] at ho
      cases ho
      cases hd
    have k3 : ∀ b u, b ≠ P → s1.heap.get? b = some u → h3.get? b = some u := fun b u hb e => hx b u hb (up b u e)
    have kbase : ∀ b u, X.base.get? b = some u → h3.get? b = some u := fun b u e => k3 b u (fun z => by
      have q := (I1.bs b u e).2
      rw [z, hP] at q
      cases q) (I1.bk b u e)
    refine wpAny_builtinsFor (m := X.mg) (by rw [I1.ok.glob]; exact ((I1.mod.glob.keeps I1.bk).push o).extBut hx TB.gP) e1 e2 (k3 _ _ e4 (I1.bk _ _ e5)) e6 e7 e8 ?_
    refine ⟨s1.heap.objs.size, [s1.heap.objs.size], [s1.heap.objs.size], a.cps.size, SignAt a, St, (fun _ => true), (fun i y => ∃ cc, a.cps[i]? = some cc ∧ y = .bool (pb cc)), rfl, W, ?_, ?_, nl2.extBut hx hcP, ?_, ?_, ?_⟩
    · refine (W X.A hr.hd).frame _ _ _ hst fun b hb u e => hx b u (fun z => ?_) e
      obtain rfl : b = s1.heap.objs.size := by simpa using hb
      exact Nat.ne_of_lt ltP z.symm
    · intro b hb
      obtain rfl : b = s1.heap.objs.size := by simpa using hb
      show s1.heap.objs.size < h3.objs.size
      omega
    · intro z
      obtain z : cStatics = s1.heap.objs.size := by simpa using z
      exact Nat.ne_of_lt hcl z
    · intro href hhref
      refine ⟨fun A' E' i v s₂ m₂ hA hD hU hPv hn hm hk => ?_, fun A' E' i v s₂ m₂ hA hD hU hPv hp hn hm hk => ?_⟩
      · simp only [List.forIn_nil]
        exact wpAny_pure ⟨rfl, GxR.keeps_refl _⟩
      · obtain ⟨cc, u, hcc, rfl⟩ := hPv
        have kb : ∀ b o, X.base.get? b = some o → s₂.heap.get? b = some o := fun b o e =>
          hk b (List.mem_range.mpr (Heap.lt_size (kbase b o e))) (fun z => by
            obtain z : b = s1.heap.objs.size := by simpa using z
            exact Nat.ne_of_lt (Heap.lt_size (I1.bk b o e)) z) o (hhref b o (kbase b o e))
        exact wpAny_mono (hel I1.ok.mod _ A' E' cc u s₂ m₂ rfl rfl hA hD hU kb hn hm) (fun y s3 r => ⟨⟨cc, hcc, r.1⟩, r.2⟩) fun _ _ e => e
    · intro g h5 tk5 gs hgb hag hsz5 hk5 W5 hat
      simp only [GxR.passing_true, List.length_range] at W5
      refine hQ a H1 g _ q1 ⟨_, _, _, _, _, W5.in4_1, hat, fun j y sj Qj Ej hy hQj => ?_, fun s' hm => ?_⟩
      · obtain ⟨i, hij, cc, hcc, rfl⟩ := hy
        obtain ⟨hj, ej⟩ := List.getElem?_eq_some_iff.mp hij
        rw [List.getElem_range] at ej
        subst ej
        have e9 : a.cps.toList[j]? = some cc := by
          rw [Array.getElem?_toList]
          exact hcc
        have q2 : Qj (GxR.trF pb a.cps.toList j) sj := hQj
        rw [GxR.trF_some e9] at q2
        exact wpAny_truthy_bool q2
      · obtain ⟨more, em⟩ := hmore
        have nwr : ∀ b u, s1.heap.get? b = some u → b ∉ h3.objs.size :: [s1.heap.objs.size] := fun b u e hb => by
          have hl := Heap.lt_size e
          rcases List.mem_cons.mp hb with z | z
          · rw [z] at hl
            have h9 : (h3.objs.size : Nat) < s1.heap.objs.size := hl
            omega
          · obtain z : b = s1.heap.objs.size := by simpa using z
            exact Nat.ne_of_lt hl z
        have J := GxR.inv_tab (more := more) (h' := s'.heap) (g' := s'.gens) (d' := s'.drawn) (t' := s'.toks) I1 hP (fun b u hb e => hm.heap b u (nwr b u e) (hk5 b u (k3 b u hb e)))
          (by rw [← em]; exact hm.heap P _ (nwr P _ hP1) (hk5 P _ hP3)) (AllBare.movedS (I1.bare.push hgb) hm)
        rw [GxR.sh_eta s1 s' hm.os] at J
        exact ⟨upd H1 P (.tbl (ps ++ more)), ⟨⟨ps ++ more, upd_same, by rw [← em]; exact ht3⟩, fun b hb => upd_ne hb⟩, J⟩
  refine ⟨nl2, ?_⟩
  have hP2 := up P _ hP1
  cases hf : codeAmong gpos ps.toList with
  | none =>
    refine wpAny_genexprCodeX hcode (cd.code hP2 ht) (cd.tab hP2) hf fun c' h' tk hx hge hlt hco' _ htab' _ => ?_
    obtain ⟨o1, vs, f1, tf, fl, tg, inF, tx, tt, op, _, _, _, _, _, _, _, _, _, htr, _⟩ := hco'
    exact rest _ h' tk _ hx (Nat.le_trans hge (Nat.le_of_lt hlt)) htab'.2 ⟨_, rfl⟩ htr
  | some cv =>
    refine wpAny_genexprCode_hit hcode (cd.code hP2 ht) hf ?_
    exact rest cv (s1.heap.push o) s1.toks ps (Heap.ExtBut.refl _ _) (Nat.le_refl _) hP2 ⟨#[], by simp⟩ ht

/-- all(test for x in e) -/
theorem pe_allD {c P : Addr} {elt iter : Expr} {x : Str} {px p pos gpos : Pos} {scope : Scope} {pb : Nat → Bool} {te : TE} {k : Nat}
    (hr : Room k X.A) (hg : Gl X "all") (hm : X.mg "all" = none) (TB : GxR.TabB X.base X.mg c P) (hcode : X.env.code = .ref c) (S : GxR.GenS X.env scope x)
    (hi : PE X iter te) (hel : L2.Mod X.K X.mg X.base → EltD X scope x elt pb) (hs : ∀ v, genFold iter X.env v = pure v)
    (he : starEach [.GeneratorExp elt [⟨.Name x px, iter, [], 0⟩] scope gpos] X.env = (false, eval (.GeneratorExp elt [⟨.Name x px, iter, [], 0⟩] scope gpos) X.env) :: starEach [] X.env := by rfl) :
    PE X (.Call (.Name "all" p) [.GeneratorExp elt [⟨.Name x px, iter, [], 0⟩] scope gpos] [] pos) (GxR.tAllS P pb te) := by
  refine ⟨fun pins s σ H Q I h => wpAny_Call_Name_kw (ld_blt I hg hm (by decide +kernel : bootBuiltins "all" = some (.builtin "all")) ?_)⟩
  refine PyProof.Rows.callWith_builtin1 ?_ he (by rfl)
  rw [he]
  show wpAny _ _ (spliced ((false, _) :: backTo pos (starEach [] X.env))) _ _ s
  refine Calls.spliced_cons (gen_signs (R := fun a H1 => ∀ H2, GxR.Tabbed P H1 H2 → Q (.bl (a.cps.toList.all pb)) H2) hr TB hcode S hi hel hs I h fun a H1 g s5 hR hG => ?_)
  obtain ⟨fp, wr, G, F, St, W, hst, htr, hI⟩ := hG
  refine Calls.spliced_nil (call_all_walkS (W.self 0 _ _ _ hst ⟨g, fp, wr, G, _, F, St, _, rfl, W, hst, htr, fun s' hmv => ?_⟩))
  obtain ⟨H2, hT, J⟩ := hI s' hmv
  refine ⟨.bl _, H2, J, rfl, ?_⟩
  rw [GxR.all_signs a pb]
  exact hR H2 hT

/-- an element that calls nothing: x in N, N a text of the module -/
theorem elt_inSigns {scope : Scope} {x n : Str} {z : Str} {tz : Tok} {p1 p2 p3 : Pos} (hgl : X.env.globals = mainGlobals) (hmod : L2.Mod X.K X.mg X.base) (hk : scope.kind = .function)
    (hl : scope.names.lookup x = some .local) (hn : scope.names.lookup n = some .globalImplicit) (hm : X.mg n = some (.str z tz))
    (hd : (x == ("__debug__" : Str)) = false := by decide) (hd2 : (n == ("__debug__" : Str)) = false := by decide) :
    EltD X scope x (.Compare (.Name x p1) [.In] [.Name n p2] p3) (fun c => decide (c ∈ z.cps.toList)) := by
  intro cenv A' E' c t s₂ m₂ hs hg hA hD hU hb hns hx
  refine wpAny_Compare1 ?_
  refine wpAny_Name (wpAny_loadName_local (by rw [hs]; exact hk) (show cenv.scope.names.lookup x = some .local by rw [hs]; exact hl) hns hx ?_) hd
  refine Calls.Name_function_global (by rw [hs]; exact hk) (show cenv.scope.names.lookup n = some .globalImplicit by rw [hs]; exact hn) (Calls.loadGlobal_global (by rw [hg, hgl]; exact hmod.glob.keeps hb) hm ?_) hd2
  refine in_str ⟨?_, GxR.keeps_refl _⟩
  rw [PySem.StrLaws.found_one z c]
end
end GD

set_option maxRecDepth 100000
set_option maxHeartbeats 4000000
namespace K1
open PySem PySem.Spec PyProof.Rows L2 GD
/-! ### the text -/
def topS (i : Nat) : Stmt := PySem.Challenge.pw_sameasnew_k48_log_under_cuts.main.body.getD i (.Pass ⟨0, 0, 0, 0⟩)
abbrev sIsName : Stmt := topS 25
abbrev sIsValue : Stmt := topS 26
abbrev sSplit : Stmt := topS 27
abbrev sTokenAt : Stmt := topS 28
abbrev sWordAt : Stmt := topS 29
abbrev sNumberAt : Stmt := topS 30
abbrev sStringAt : Stmt := topS 31
abbrev sEndOfRun : Stmt := topS 32
abbrev sCell : Stmt := topS 76
abbrev sDigits : Stmt := topS 77
abbrev sDraw : Stmt := topS 78
abbrev sAlike : Stmt := topS 79

/-- the signs of the package -/
def CHS : Str := " !\"#$&'()*+,-./0123456789:;<=>?@ABCDEFGHIJKLMNOPQRSTUVWXYZ[\\]^_`abcdefghijklmnopqrstuvwxyz{|}~"
def isCh (c : Nat) : Bool := decide (32 ≤ c ∧ c ≤ 126 ∧ c ≠ 37)
theorem chs_le : ∀ x ∈ CHS.cps.toList, x ≤ 126 := by decide +kernel
theorem chs_tab : ∀ c ∈ List.range 127, decide (c ∈ CHS.cps.toList) = isCh c := by decide +kernel
theorem chs_eq (c : Nat) : decide (c ∈ CHS.cps.toList) = isCh c := by
  by_cases h : c < 127
  · exact chs_tab c (List.mem_range.mpr h)
  · rw [decide_eq_false fun z => h (Nat.lt_succ_of_le (chs_le c z))]
    exact (decide_eq_false fun z => h (by omega)).symm
/-- a character that may stand in a string -/
def mayC (c : Nat) : Bool := decide (32 ≤ c ∧ c ≤ 126 ∧ c ≠ 37 ∧ c ≠ 34 ∧ c ≠ 124)
theorem mayC_eq (c : Nat) : mayC c = (isCh c && !(decide (c = 34) || decide (c = 124))) := by
  unfold mayC isCh
  rw [Bool.eq_iff_iff]
  simp only [Bool.and_eq_true, Bool.not_eq_true', Bool.or_eq_false_iff, decide_eq_true_eq, decide_eq_false_iff_not]
  constructor
  · intro h
    exact ⟨⟨h.1, h.2.1, h.2.2.1⟩, h.2.2.2.1, h.2.2.2.2⟩
  · intro h
    exact ⟨h.1.1, h.1.2.1, h.1.2.2, h.2.1, h.2.2⟩
/-- the element of is_value's generator -/
theorem elt_val {X : Cx} {scope : Scope} {tz : Tok} {j1 j2 j3 : Nat} {p0 p1 p2 p3 p4 p5 p6 p7 p8 : Pos} (hgl : X.env.globals = mainGlobals) (hmod : L2.Mod X.K X.mg X.base) (hk : scope.kind = .function)
    (hl : scope.names.lookup ("character" : Str) = some .local) (hn : scope.names.lookup ("CHARACTERS" : Str) = some .globalImplicit) (hm : X.mg "CHARACTERS" = some (.str CHS tz)) :
    EltD X scope "character" (.BoolOp .And [.Compare (.Name "character" p1) [.In] [.Name "CHARACTERS" p2] p3, .Compare (.Name "character" p4) [.NotIn] [.Tuple [.Constant (.str "\"") j1 p5, .Constant (.str "|") j2 p6] j3 p7] p8] p0) mayC := by
  intro cenv A' E' c t s₂ m₂ hs hg hA hD hU hb hns hx
  have k1 : cenv.scope.kind = .function := by rw [hs]; exact hk
  have l1 : cenv.scope.names.lookup ("character" : Str) = some .local := by rw [hs]; exact hl
  refine BoolOp_and (wpAny_Compare1 ?_)
  refine wpAny_Name (wpAny_loadName_local k1 l1 hns hx ?_) (by decide)
  refine Calls.Name_function_global k1 (show cenv.scope.names.lookup _ = some .globalImplicit by rw [hs]; exact hn) (Calls.loadGlobal_global (by rw [hg, hgl]; exact hmod.glob.keeps hb) hm ?_) (by decide)
  refine in_str ?_
  rw [PySem.StrLaws.found_one CHS c, chs_eq c]
  refine wpAny_truthy_bool ?_
  by_cases c1 : isCh c = true
  case neg =>
    have e1 : isCh c = false := by
      cases h : isCh c
      · rfl
      · exact absurd h c1
    rw [e1]
    refine ite_ff ⟨?_, GxR.keeps_refl _⟩
    rw [mayC_eq, e1, Bool.false_and]
  rw [c1]
  refine ite_tt (BoolOp_one (wpAny_Compare1 ?_))
  refine wpAny_Name (wpAny_loadName_local k1 l1 hns hx ?_) (by decide)
  refine wpAny_Tuple_spliced ?_
  show wpAny _ _ (spliced ((false, eval _ cenv) :: backTo _ (starEach [_] cenv))) _ _ _
  refine Calls.spliced_cons (Calls.Constant_str ?_)
  show wpAny _ _ (spliced ((false, eval _ cenv) :: backTo _ (starEach [] cenv))) _ _ _
  refine Calls.spliced_cons (Calls.Constant_str ?_)
  refine Calls.spliced_nil ⟨by show 2 ≤ sizeLine; decide, ?_⟩
  refine SeqAt.notIn_tupleAt (eqU (.str ⟨#[c]⟩)) ⟨_, Heap.get?_push_size _ rfl, rfl, _, rfl⟩ (fun y hy => ?_) ?_
  · have z := List.mem_toArray.mp hy
    rcases List.mem_cons.mp z with rfl | z
    · exact SeqAt.EqAt.str_str _ _ _ _
    · rcases List.mem_cons.mp z with rfl | z
      · exact SeqAt.EqAt.str_str _ _ _ _
      · cases z
  · have q1 : ∀ d : Nat, eqV (.str ⟨#[d]⟩) (.str ⟨#[c]⟩) = decide (c = d) := fun d => by
      show ((⟨#[d]⟩ : Str) == (⟨#[c]⟩ : Str)) = _
      by_cases h : c = d
      · subst h
        rw [decide_eq_true rfl]
        exact beq_self_eq_true _
      · rw [decide_eq_false h]
        refine beq_eq_false_iff_ne.mpr fun z => h ?_
        have z1 : #[d] = #[c] := congrArg Str.cps z
        have z2 : [d] = [c] := congrArg Array.toList z1
        exact (List.cons.inj z2).1.symm
    refine ⟨congrArg Value.bool ?_, ⟨_, _, rfl, fun b o e => Heap.get?_push_of_some _ e⟩⟩
    show (!([Value.str (Str.ofString "\"") _, Value.str (Str.ofString "|") _].toArray.any (eqU (.str ⟨#[c]⟩)))) = mayC c
    rw [show ∀ l : List Value, l.toArray.any (eqU (.str ⟨#[c]⟩)) = l.any (eqU (.str ⟨#[c]⟩)) from fun l => by simp]
    rw [List.any_cons, List.any_cons, List.any_nil, Bool.or_false]
    show (!(eqV (.str ⟨#[34]⟩) (.str ⟨#[c]⟩) || eqV (.str ⟨#[124]⟩) (.str ⟨#[c]⟩))) = mayC c
    rw [q1, q1, mayC_eq, c1, Bool.true_and]
end K1

set_option maxRecDepth 100000
set_option maxHeartbeats 4000000
namespace K1
open PySem PySem.Spec PyProof.Rows L2 GD

def kw13 : List Str := ["import", "export", "let", "keep", "fn", "do", "hold", "if", "then", "else", "set", "from", "as"]
/-- what the top has written, but for the defs -/
structure Txt (K : PySem.W.Frag) (mg : Str → Option Value) : Prop where
  len : mg "len" = none
  range : mg "range" = none
  bint : mg "int" = none
  bstr : mg "str" = none
  bbool : mg "bool" = none
  blist : mg "list" = none
  repr : mg "repr" = none
  isinstance : mg "isinstance" = none
  ord : mg "ord" = none
  all : mg "all" = none
  NAME_MOST : ∃ t, mg "NAME_MOST" = some (.int 6 t)
  NUMBER_MOST : ∃ t, mg "NUMBER_MOST" = some (.int 99999 t)
  STRING_MOST : ∃ t, mg "STRING_MOST" = some (.int 20 t)
  CHARACTERS : ∃ t, mg "CHARACTERS" = some (.str CHS t)
  LETTERS : ∃ t, mg "LETTERS" = some (.str "abcdefghijklmnopqrstuvwxyz" t)
  DIGITS : ∃ t, mg "DIGITS" = some (.str "0123456789" t)
  SIGNS : ∃ t, mg "SIGNS" = some (.str "(),;+-*<=" t)
  RESERVED : ∃ a, mg "RESERVED" = some (.ref a) ∧ ∀ H, SqT K H a (kw13.map V.str)

/-! ### the law's helpers -/
/-- the box of a law: a list of the list of digits and the place -/
def Box (H : Hp) (b d : Addr) (ds : List Int) (at_ : Nat) : Prop :=
  H b = some (.lst [.ref d, .int at_]) ∧ H d = some (.lst (ds.map V.int)) ∧ ds.length ≤ 4000
theorem Box.ne {H : Hp} {b d : Addr} {ds : List Int} {at_ : Nat} (h : Box H b d ds at_) : d ≠ b := fun e => by
  obtain ⟨h1, h2, _⟩ := h
  rw [e, h1] at h2
  have q : [V.ref d, V.int at_] = ds.map V.int := by
    have := Option.some.inj h2
    injection this
  cases ds with
  | nil => cases q
  | cons x r => cases q

section
variable {P : Program} {w : World} {K : PySem.W.Frag} {mg : Str → Option Value} {base : Heap}

def spCell (K : PySem.W.Frag) : Sp := fun vs H Q _ => ∃ (a : Addr) (ns : List Int) (k : Nat), vs = [.ref a, .int k] ∧ SqL K H a (ns.map V.int) ∧ ∀ v : Int, Q (.int v) H
theorem scCell : FnScope ["script", "k"] ["script", "k"] (defScope sCell) := ⟨rfl, rfl, rfl, by decide +kernel, rfl, by decide +kernel, by decide +kernel⟩
theorem ok_cell {f : Addr} {fd : FuncData} (F : Fun K "_law_cell" "_law_cell" sCell f fd) (T : Txt K mg) : FnOk P w K mg base CX0 1 f fd ["script", "k"] (spCell K) := by
  have sc := scCell
  refine F.ok sc (fun vs H Q E h => ?_) (fun cdv A outer s H vs Q E hr h => ?_)
  · obtain ⟨a, ns, k, rfl, _⟩ := h
    rfl
  · obtain ⟨a, ns, k, rfl, hS, q⟩ := h
    refine ⟨_, (pss_cons (ps_if (pt_cmpR op_lt (pv 1) (pe_callB call_len_seq (by rfl) T.len (by decide +kernel) (pa_cons (pv 0) pa_nil)) (nomark _))
      (pss_one (ps_ret (pe_ix ix_list (pv 0) (pv 1) (fun _ _ => rfl)))) pss_nil)
      (pss_one (ps_ret pe_int))), ?_⟩
    refine ⟨_, rfl, _, rfl, a, _, rfl, .inl hS, _, _, rfl, rfl, _, rfl, ite2 (fun e => ?_) (fun e => ?_)⟩
    · have hk : k < ns.length := by
        have := of_decide_eq_true e
        rw [List.length_map] at this
        omega
      exact ⟨_, rfl, _, rfl, a, _, _, .int ns[k], rfl, rfl, hS, atI_nat (by rw [List.getElem?_map, List.getElem?_eq_getElem hk]; rfl), q _⟩
    · exact q 0

def spDraw : Sp := fun vs H Q _ => ∃ (b d : Addr) (ds : List Int) (at_ : Nat) (m : Int), vs = [.ref b, .int m] ∧ Box H b d ds at_ ∧ 0 < m ∧
  ∀ r : Int, 0 ≤ r → r < m → Q (.int r) (upd H b (.lst [.ref d, .int ((at_ + 1 : Nat) : Int)]))
theorem scDraw : FnScope ["box", "many", "at"] ["box", "many"] (defScope sDraw) := ⟨rfl, rfl, rfl, by decide +kernel, rfl, by decide +kernel, by decide +kernel⟩
theorem ok_draw {f : Addr} {fd : FuncData} (F : Fun K "_law_draw" "_law_draw" sDraw f fd) (T : Txt K mg) : FnOk P w K mg base CX0 1 f fd ["box", "many"] spDraw := by
  have sc := scDraw
  refine F.ok sc (fun vs H Q E h => ?_) (fun cdv A outer s H vs Q E hr h => ?_)
  · obtain ⟨b, d, ds, at_, m, rfl, _⟩ := h
    rfl
  · obtain ⟨b, d, ds, at_, m, rfl, hB, hm, q⟩ := h
    refine ⟨_, (pss_cons (ps_set (i := 2) sc.nd rfl (.inl rfl) (pe_ix ix_list (pv 0) pe_int (fun _ _ => rfl)))
      (pss_cons (ps_asg (pe_op op_add (pv 2) pe_int) (pg_sub (pv 0) pe_int set_list))
      (pss_cons (ps_if (pt_cmpR op_lt (pv 2) (pe_callB call_len_seq (by rfl) T.len (by decide +kernel) (pa_cons (pe_ix ix_list (pv 0) pe_int (fun _ _ => rfl)) pa_nil)) (nomark _))
      (pss_one (ps_ret (pe_op op_mod (pe_callTy call_int1 (by rfl) T.bint (by decide +kernel) (pa_cons (pe_ix ix_list (pe_ix ix_list (pv 0) pe_int (fun _ _ => rfl)) (pv 2) (fun _ _ => rfl)) pa_nil)) (pv 1)))) pss_nil)
      (pss_one (ps_ret (pe_op op_mod (pe_callTy call_int1 (by rfl) T.bint (by decide +kernel) (pa_cons (pe_op op_add (pe_op op_mul (pv 2) pe_int) pe_int) pa_nil)) (pv 1))))))), ?_⟩
    obtain ⟨h1, h2, h3⟩ := hB
    have nd : d ≠ b := Box.ne ⟨h1, h2, h3⟩
    refine ⟨_, rfl, b, _, 1, .int at_, rfl, rfl, SqL.of h1, atI_nat (j := 1) rfl, ?_⟩
    refine ⟨_, rfl, _, _, rfl, rfl, _, rfl, b, _, 1, 1, rfl, rfl, h1, rfl, ?_⟩
    have e1 : upd H b (.lst ([V.ref d, V.int at_].set 1 (.int ((at_ : Int) + 1)))) b = some (.lst [.ref d, .int ((at_ + 1 : Nat) : Int)]) := upd_same
    have e2 : upd H b (.lst ([V.ref d, V.int at_].set 1 (.int ((at_ : Int) + 1)))) d = some (.lst (ds.map V.int)) := by rw [upd_ne nd]; exact h2
    refine ⟨_, rfl, _, rfl, b, _, 0, .ref d, rfl, rfl, SqL.of e1, atI_nat (j := 0) rfl, d, _, rfl, .inl (SqL.of e2), _, _, rfl, rfl, _, rfl, ite2 (fun e => ?_) (fun e => ?_)⟩
    · have hk : at_ < ds.length := by
        have := of_decide_eq_true e
        rw [List.length_map] at this
        omega
      refine ⟨_, rfl, b, _, 0, .ref d, rfl, rfl, SqL.of e1, atI_nat (j := 0) rfl, _, rfl, d, _, _, .int ds[at_], rfl, rfl, SqL.of e2, atI_nat (by rw [List.getElem?_map, List.getElem?_eq_getElem hk]; rfl), .inl ⟨_, rfl, ?_⟩⟩
      exact ⟨_, rfl, _, _, rfl, rfl, hm, q _ (Int.emod_nonneg _ (by omega)) (Int.emod_lt_of_pos _ hm)⟩
    · refine ⟨_, rfl, _, _, rfl, rfl, .inr (by decide), _, _, rfl, rfl, .inl ⟨_, rfl, ?_⟩⟩
      exact ⟨_, rfl, _, _, rfl, rfl, hm, q _ (Int.emod_nonneg _ (by omega)) (Int.emod_lt_of_pos _ hm)⟩

def spAlike (K : PySem.W.Frag) : Sp := fun vs H Q _ => ∃ (x y : V) (d : PyData), vs = [x, y] ∧ Dp K H x d ∧ Dp K H y d ∧ d ≠ .none ∧ d.showable = true ∧ d.hasDict = false ∧ d.depth ≤ 60 ∧ d.shown.length ≤ sizeLine ∧ Q (.bl true) H
theorem scAlike : FnScope ["one", "two"] ["one", "two"] (defScope sAlike) := ⟨rfl, rfl, rfl, by decide +kernel, rfl, by decide +kernel, by decide +kernel⟩
theorem ok_alike {f : Addr} {fd : FuncData} (F : Fun K "_law_alike" "_law_alike" sAlike f fd) (T : Txt K mg) : FnG P w K mg base CX0 1 f fd ["one", "two"] (spAlike K) := by
  have sc := scAlike
  refine okG F sc (fun vs H Q E h => ?_) (fun cdv A outer s H vs Q E hgd hr h => ?_)
  · obtain ⟨x, y, d, rfl, _⟩ := h
    rfl
  · obtain ⟨x, y, d, rfl, hx, hy, h1, h2, h3, h4, h5, q⟩ := h
    refine ⟨_, (pss_one (ps_ret (pe_cmpR op_eq (pe_callB (cr_repr hgd hr.units) (by rfl) T.repr (by decide +kernel) (pa_cons (pv 0) pa_nil)) (pe_callB (cr_repr hgd hr.units) (by rfl) T.repr (by decide +kernel) (pa_cons (pv 1) pa_nil)) (nomark _)))), ?_⟩
    refine ⟨_, rfl, x, d, rfl, hx, h1, h2, h3, h4, h5, _, rfl, y, d, rfl, hy, h1, h2, h3, h4, h5, rfl, ?_⟩
    rw [decide_eq_true rfl]
    exact q
end
end K1

set_option maxRecDepth 100000
set_option maxHeartbeats 4000000
namespace K1
open PySem PySem.Spec PyProof.Rows L2 GD
section
variable {P : Program} {w : World} {K : PySem.W.Frag} {mg : Str → Option Value} {base : Heap}

theorem snoc_ints (ds : List Int) (x : Int) : ds.map V.int ++ [V.int x] = (ds ++ [x]).map V.int := by rw [List.map_append]; rfl
theorem Same.lst {H H1 : Hp} {D : Addr} {o : HO} (s : Same H H1) (n : H D = none) : Same H (upd H1 D o) := fun b u e => by
  rw [upd_ne (ne_of_none e n)]
  exact s b u e

def spDigits (K : PySem.W.Frag) : Sp := fun vs H Q _ => ∃ (a : Addr) (ns : List Int), vs = [.ref a, .int 0, .int 63] ∧ SqL K H a (ns.map V.int) ∧
  ∀ (H' : Hp) (D : Addr) (ds : List Int), Same H H' → H D = none → H' D = some (.lst (ds.map V.int)) → ds.length ≤ 4000 → Q (.ref D) H'
theorem scDigits : FnScope ["script", "first", "last", "digits", "k", "cell", "turn", "seed"] ["script", "first", "last"] (defScope sDigits) := ⟨rfl, rfl, rfl, by decide +kernel, rfl, by decide +kernel, by decide +kernel⟩
theorem ok_digits {f fc : Addr} {fd fdc : FuncData} (F : Fun K "_law_digits" "_law_digits" sDigits f fd) (T : Txt K mg) (FC : FnOk P w K mg base CX0 1 fc fdc ["script", "k"] (spCell K))
    (mc : mg "_law_cell" = some (.ref fc)) (kc : PySem.W.keepIn K (.ref fc) = true) (bc : Binds K fdc ["script", "k"] []) : FnOk P w K mg base CX0 2 f fd ["script", "first", "last"] (spDigits K) := by
  have sc := scDigits
  refine F.ok sc (fun vs H Q E h => ?_) (fun cdv A outer s H vs Q E hr h => ?_)
  · obtain ⟨a, ns, rfl, _⟩ := h
    rfl
  · obtain ⟨a, ns, rfl, hS, q⟩ := h
    refine ⟨_, (pss_cons (ps_set (i := 3) sc.nd rfl (.inl rfl) (pe_lst pa_nil))
(pss_cons (ps_for PassesOwn.never rfl (pi_range2 rfl T.range (pa_cons (pv 1) (pa_cons (pv 2) pa_nil))) (pg_name (i := 4) sc.nd rfl (.inl rfl))
(pss_cons (ps_set (i := 5) sc.nd rfl (.inl rfl) (pe_call FC hr (by rfl) mc kc bc .nil pass0 (pa_cons (pv 0) (pa_cons (pv 4) pa_nil))))
(C8.pss_cut (ps_if (pt_cmpR op_lt (pv 5) pe_int (nomark _))
(pss_one (ps_set (i := 5) sc.nd rfl (.inl rfl) (pe_op op_sub pe_int (pe_op op_mul pe_int (pv 5))))) pss_nil)
(pss_one (ps_if (pt_cmpR op_ge (pv 5) pe_int (nomark _))
(pss_one (ps_for PassesOwn.never rfl (pi_range1 rfl T.range (pa_cons pe_int pa_nil)) (pg_name (i := 6) sc.nd rfl (.inl rfl))
(pss_one (ps_if (pt_cmpR op_gt (pv 5) pe_int (nomark _))
(pss_cons (ps_expr (pe_bm PySem.F.plainAttrs_list PySem.F.slot_list_append PySem.F.type_list_append mt_append (pv 3) (pa_cons (pe_op op_mod (pe_callTy call_int1 (by rfl) T.bint (by decide +kernel) (pa_cons (pv 5) pa_nil)) pe_int) pa_nil)))
(pss_one (ps_set (i := 5) sc.nd rfl (.inl rfl) (pe_op op_fdiv (pv 5) pe_int)))) pss_nil)))) (pss_cons (ps_set (i := 7) sc.nd rfl (.inl rfl) (pe_op op_mod (pe_callTy call_int1 (by rfl) T.bint (by decide +kernel) (pa_cons (pe_op op_add (pe_op op_add (pe_op op_mul (pv 5) pe_int) (pe_op op_mul (pv 4) pe_int)) pe_int) pa_nil)) pe_int))
(pss_one (ps_for PassesOwn.never rfl (pi_range1 rfl T.range (pa_cons pe_int pa_nil)) (pg_name (i := 6) sc.nd rfl (.inl rfl))
(pss_cons (ps_set (i := 7) sc.nd rfl (.inl rfl) (pe_op op_mod (pe_callTy call_int1 (by rfl) T.bint (by decide +kernel) (pa_cons (pe_op op_add (pe_op op_add (pe_op op_mul (pv 7) pe_int) (pe_op op_mul pe_int (pv 6))) pe_int) pa_nil)) pe_int))
(pss_one (ps_expr (pe_bm PySem.F.plainAttrs_list PySem.F.slot_list_append PySem.F.type_list_append mt_append (pv 3) (pa_cons (pe_op op_mod (pe_callTy call_int1 (by rfl) T.bint (by decide +kernel) (pa_cons (pe_op op_fdiv (pv 7) pe_int) pa_nil)) pe_int) pa_nil)))))))))))))
(pss_one (ps_ret (pv 3))))), ?_⟩
    refine ⟨Nat.zero_le _, fun D hD => ?_⟩
    refine ⟨_, rfl, _, rfl, 0, 63, rfl, ⟨by decide, by decide, by decide, by decide⟩, for_range (lo := 0) (n := 63) (fun i σ H' => ∃ (ds : List Int) (y4 y5 y6 y7 : Option V), σ = [some (.ref a), some (.int 0), some (.int 63), some (.ref D), y4, y5, y6, y7] ∧ Same H H' ∧ H' D = some (.lst (ds.map V.int)) ∧ ds.length ≤ 60 * i)
      ⟨[], none, none, none, none, rfl, Same.lst (Same.refl H) hD, upd_same, Nat.zero_le _⟩ ?_ ?_⟩
    · rintro i σ H1 hi ⟨ds, y4, y5, y6, y7, rfl, s1, e1, l1⟩
      refine ⟨_, rfl, _, rfl, a, ns, i, by rw [Int.zero_add]; rfl, s1.seq hS, fun c => ?_⟩
      refine ⟨fun σ' H' => ∃ c : Int, σ' = [some (.ref a), some (.int 0), some (.int 63), some (.ref D), some (.int (0 + (i : Nat))), some (.int c), y6, y7] ∧ H' = H1, ⟨_, rfl, _, _, rfl, rfl, _, rfl, ite2 (fun _ => ?_) (fun _ => ?_)⟩, ?_⟩
      · exact ⟨_, rfl, _, _, rfl, rfl, .inl (by decide), _, _, rfl, rfl, _, rfl, rfl⟩
      · exact ⟨_, rfl, rfl⟩
      · rintro σ' H' ⟨c, rfl, rfl⟩
        have big : ∀ {n : Nat}, n ≤ 5000 → n < sizeLine := fun h => Nat.lt_of_le_of_lt h (by decide)
        refine ⟨_, rfl, _, _, rfl, rfl, _, rfl, ite2 (fun _ => ?_) (fun _ => ?_)⟩
        · refine ⟨_, rfl, by decide, by decide, for_range (lo := 0) (n := 60) (fun j σ H' => ∃ (ds2 : List Int) (c2 : Int) (y6 : Option V), σ = [some (.ref a), some (.int 0), some (.int 63), some (.ref D), some (.int (0 + (i : Nat))), some (.int c2), y6, y7] ∧ Same H H' ∧ H' D = some (.lst (ds2.map V.int)) ∧ ds2.length ≤ 60 * i + j)
            ⟨ds, c, y6, rfl, s1, e1, l1⟩ ?_ ?_⟩
          · rintro j σ H2 hj ⟨ds2, c2, y6, rfl, s2, e2, l2⟩
            refine ⟨_, rfl, _, _, rfl, rfl, _, rfl, ite2 (fun _ => ?_) (fun _ => ?_)⟩
            · refine ⟨_, rfl, .inl ⟨rfl, _, SqL.of e2⟩, _, rfl, .inl ⟨_, rfl, _, _, rfl, rfl, (by show (0 : Int) < 1000; decide), D, _, _, rfl, rfl, e2, ?_, ?_⟩⟩
              · rw [List.length_map]
                exact big (by omega)
              · refine ⟨_, rfl, _, _, rfl, rfl, ⟨by decide, by decide⟩, ds2 ++ [c2 % 1000], _, _, rfl, Same.lst s2 hD, ?_, ?_⟩
                · rw [upd_same, snoc_ints]
                · rw [List.length_append, List.length_singleton]
                  omega
            · exact ⟨ds2, c2, _, rfl, s2, e2, by omega⟩
          · rintro σ H2 ⟨ds2, c2, y6, rfl, s2, e2, l2⟩
            exact ⟨ds2, _, _, _, _, rfl, s2, e2, by omega⟩
        · refine ⟨_, rfl, _, _, rfl, rfl, .inr (by decide), _, rfl, _, _, rfl, rfl, .inr (by decide), _, _, rfl, rfl, _, _, rfl, rfl, .inl ⟨_, rfl, _, _, rfl, rfl, (by show (0 : Int) < 2147483399; decide), ?_⟩⟩
          refine ⟨_, rfl, by decide, by decide, for_range (lo := 0) (n := 12) (fun j σ H' => ∃ (ds2 : List Int) (c2 : Int) (y6 : Option V), σ = [some (.ref a), some (.int 0), some (.int 63), some (.ref D), some (.int (0 + (i : Nat))), some (.int c), y6, some (.int c2)] ∧ Same H H' ∧ H' D = some (.lst (ds2.map V.int)) ∧ ds2.length ≤ 60 * i + j)
            ⟨ds, _, y6, rfl, s1, e1, l1⟩ ?_ ?_⟩
          · rintro j σ H2 hj ⟨ds2, c2, y6, rfl, s2, e2, l2⟩
            refine ⟨_, rfl, _, _, rfl, rfl, .inr (by decide), _, rfl, _, _, rfl, rfl, .inl (by decide), _, _, rfl, rfl, _, _, rfl, rfl, .inl ⟨_, rfl, _, _, rfl, rfl, (by show (0 : Int) < 2147483563; decide), ?_⟩⟩
            refine ⟨_, rfl, .inl ⟨rfl, _, SqL.of e2⟩, _, rfl, _, _, rfl, rfl, ⟨by decide, by decide⟩, .inl ⟨_, rfl, _, _, rfl, rfl, (by show (0 : Int) < 1000; decide), D, _, _, rfl, rfl, e2, ?_, ?_⟩⟩
            · rw [List.length_map]
              exact big (by omega)
            · refine ⟨ds2 ++ [(c2 * 40014 + 5 * (0 + (j : Nat)) + 3) % 2147483563 / 1009 % 1000], _, _, rfl, Same.lst s2 hD, ?_, ?_⟩
              all_goals try dsimp only
              · rw [upd_same, snoc_ints]
              · rw [List.length_append, List.length_singleton]
                omega
          · rintro σ H2 ⟨ds2, c2, y6, rfl, s2, e2, l2⟩
            exact ⟨ds2, _, _, _, _, rfl, s2, e2, by omega⟩
    · rintro σ H1 ⟨ds, y4, y5, y6, y7, rfl, s1, e1, l1⟩
      exact ⟨_, rfl, q H1 D ds s1 hD e1 (by omega)⟩
end
end K1

set_option maxRecDepth 100000
set_option maxHeartbeats 4000000
/-! the mathematics of law k01: lists of codes, no Python -/
namespace K1
open PySem

def S (l : List Nat) : Str := ⟨l.toArray⟩
theorem S_toList (l : List Nat) : (S l).cps.toList = l := rfl
theorem S_len (l : List Nat) : (S l).length = l.length := by show l.toArray.size = _; simp
theorem S_of (z : Str) : S z.cps.toList = z := by cases z; rfl
theorem S_app (a b : List Nat) : S a ++ S b = S (a ++ b) := by
  show (⟨a.toArray ++ b.toArray⟩ : Str) = ⟨(a ++ b).toArray⟩
  rw [List.append_toArray]
theorem S_inj {a b : List Nat} (h : S a = S b) : a = b := congrArg (fun z : Str => z.cps.toList) h

/-! ### finding a sign -/
section
open Builtin Builtin.Str StrLaws
theorem occ_stop (s sub : Str) (hi : Nat) : ∀ (l : List Nat) (st : Array Nat × Nat), st.fst.size = 1 → (forIn l st (occBody s sub hi 1)).run.fst = st.fst
  | [], st, h => rfl
  | a :: l, st, h => by
    rw [List.forIn_cons]
    unfold occBody
    rw [if_neg (fun z => by have := z.1.1.1; omega)]
    exact occ_stop s sub hi l st h
theorem occ_first (x : Str) (c : Nat) : ∀ (m cur free : Nat), free ≤ cur →
    ((∀ k, cur ≤ k → k < cur + m → x.cps.toList[k]? ≠ some c) ∧ (forIn (List.range' cur m) ((#[] : Array Nat), free) (occBody x ⟨#[c]⟩ x.length 1)).run.fst = #[]) ∨
    ∃ k, cur ≤ k ∧ k < cur + m ∧ x.cps.toList[k]? = some c ∧ (∀ j, cur ≤ j → j < k → x.cps.toList[j]? ≠ some c) ∧ (forIn (List.range' cur m) ((#[] : Array Nat), free) (occBody x ⟨#[c]⟩ x.length 1)).run.fst = #[k]
  | 0, cur, free, h => .inl ⟨fun k h1 h2 => by omega, rfl⟩
  | m + 1, cur, free, h => by
    rw [List.range'_succ, List.forIn_cons]
    unfold occBody
    by_cases hc : x.cps.toList[cur]? = some c
    · have q := (subAt_one x c cur).mpr hc
      rw [if_pos ⟨⟨⟨by simp, h⟩, q.1⟩, q.2⟩]
      refine .inr ⟨cur, Nat.le_refl _, by omega, hc, fun j h1 h2 => by omega, ?_⟩
      exact occ_stop x _ _ _ _ rfl
    · rw [if_neg (fun z => hc ((subAt_one x c cur).mp ⟨z.1.2, z.2⟩))]
      rcases occ_first x c m (cur + 1) free (by omega) with ⟨h1, h2⟩ | ⟨k, h1, h2, h3, h4, h5⟩
      · refine .inl ⟨fun k k1 k2 => ?_, h2⟩
        by_cases e : k = cur
        · rw [e]; exact hc
        · exact h1 k (by omega) (by omega)
      · refine .inr ⟨k, by omega, by omega, h3, fun j j1 j2 => ?_, h5⟩
        by_cases e : j = cur
        · rw [e]; exact hc
        · exact h4 j (by omega) j2
/-- s.find(c, i): the first place from i on -/
theorem find_one (x : Str) (c i : Nat) (hi : i ≤ x.length) :
    (Txt.find3 x ⟨#[c]⟩ (i : Nat) = -1 ∧ c ∉ x.cps.toList.drop i) ∨
    ∃ k : Nat, Txt.find3 x ⟨#[c]⟩ (i : Nat) = ((i + k : Nat) : Int) ∧ (x.cps.toList.drop i)[k]? = some c ∧ c ∉ (x.cps.toList.drop i).take k := by
  have e : fromIndex x.length (i : Nat) = i := by
    show (max (0 : Int) (if ((i : Nat) : Int) < 0 then _ else ((i : Nat) : Int))).toNat = i
    rw [if_neg (by omega)]
    omega
  unfold Txt.find3
  rw [e, occ_eq]
  have xl : x.length = x.cps.toList.length := by show x.cps.size = _; simp
  rcases occ_first x c (x.length + 1 - i) i i (Nat.le_refl _) with ⟨h1, h2⟩ | ⟨k, h1, h2, h3, h4, h5⟩
  · left
    rw [h2]
    refine ⟨rfl, fun hm => ?_⟩
    obtain ⟨j, hj⟩ := List.getElem?_of_mem hm
    rw [List.getElem?_drop] at hj
    have := (List.getElem?_eq_some_iff.mp hj).1
    exact h1 (i + j) (by omega) (by omega) hj
  · right
    rw [h5]
    refine ⟨k - i, ?_, ?_, fun hm => ?_⟩
    · show ((k : Nat) : Int) = _
      omega
    · rw [List.getElem?_drop, show i + (k - i) = k by omega]
      exact h3
    · obtain ⟨j, hj⟩ := List.getElem?_of_mem hm
      have hlt : j < k - i := by
        have := (List.getElem?_eq_some_iff.mp hj).1
        rw [List.length_take] at this
        omega
      rw [List.getElem?_take_of_lt hlt, List.getElem?_drop] at hj
      exact h4 (i + j) (by omega) (by omega) hj
end

/-! ### tokens -/
def LET : List Nat := ("abcdefghijklmnopqrstuvwxyz" : Str).cps.toList
def DIG : List Nat := ("0123456789" : Str).cps.toList
def SGN : List Nat := ("(),;+-*<=" : Str).cps.toList
def mayB (c : Nat) : Bool := decide (32 ≤ c ∧ c ≤ 126 ∧ c ≠ 37 ∧ c ≠ 34 ∧ c ≠ 124)
/-- how many of cs stand at the beginning -/
def run (cs l : List Nat) : Nat := (l.takeWhile fun c => decide (c ∈ cs)).length
def val (ds : List Nat) : Nat := ds.foldl (fun acc c => acc * 10 + (c - 48)) 0
inductive Tok where
  | word (l : List Nat) | num (n : Nat) | str (l : List Nat) | sign (c : Nat)
/-- the text of a number -/
def numT (n : Nat) : List Nat := (Str.ofString (toString (n : Int))).cps.toList
/-- how far the next quote is -/
def toQ (r : List Nat) : Nat := (r.takeWhile fun d => d != 34).length
/-- the token at the beginning, and how many signs it has -/
def lexC (c : Nat) (r : List Nat) : Option (Tok × Nat) :=
    if c ∈ LET then (if run LET (c :: r) ≤ 6 then some (.word ((c :: r).take (run LET (c :: r))), run LET (c :: r)) else none)
    else if c ∈ DIG then
      (if run DIG (c :: r) ≤ 5 ∧ (c :: r).take (run DIG (c :: r)) = numT (val ((c :: r).take (run DIG (c :: r)))) then
        some (.num (val ((c :: r).take (run DIG (c :: r)))), run DIG (c :: r)) else none)
    else if c = 34 then
      (if toQ r < r.length ∧ toQ r ≤ 20 ∧ (r.take (toQ r)).all mayB = true then some (.str (r.take (toQ r)), toQ r + 2) else none)
    else if c ∈ SGN then some (.sign c, 1) else none
/-- how a line is split -/
inductive Lex : List Nat → Option (List Tok) → Prop
  | nil : Lex [] (some [])
  | sp {r o} : Lex r o → Lex (32 :: r) o
  | bad {c r} : c ≠ 32 → lexC c r = none → Lex (c :: r) none
  | tok {c r t k o} : c ≠ 32 → lexC c r = some (t, k) → Lex ((c :: r).drop k) o → Lex (c :: r) (o.map (t :: ·))

theorem run_le (cs l : List Nat) : run cs l ≤ l.length := (List.takeWhile_sublist _).length_le
theorem run_pos {cs : List Nat} {c : Nat} {r : List Nat} (h : c ∈ cs) : 1 ≤ run cs (c :: r) := by
  unfold run
  rw [List.takeWhile_cons, if_pos (decide_eq_true h)]
  simp
theorem lexC_pos {c : Nat} {r : List Nat} {t : Tok} {k : Nat} (h : lexC c r = some (t, k)) : 1 ≤ k := by
  unfold lexC at h
  by_cases h1 : c ∈ LET
  · rw [if_pos h1] at h
    split at h
    · cases h
      exact run_pos h1
    · cases h
  rw [if_neg h1] at h
  by_cases h2 : c ∈ DIG
  · rw [if_pos h2] at h
    split at h
    · cases h
      exact run_pos h2
    · cases h
  rw [if_neg h2] at h
  by_cases h3 : c = 34
  · rw [if_pos h3] at h
    split at h
    · cases h
      omega
    · cases h
  rw [if_neg h3] at h
  split at h
  · cases h
    exact Nat.le_refl _
  · cases h
/-- every line is split in some way -/
theorem lex_all : ∀ (n : Nat) (l : List Nat), l.length ≤ n → ∃ o, Lex l o
  | _, [], _ => ⟨_, .nil⟩
  | 0, _ :: _, h => by simp at h
  | n + 1, c :: r, h => by
    have hr : r.length ≤ n := by simpa using h
    by_cases hc : c = 32
    · obtain ⟨o, ho⟩ := lex_all n r hr
      subst hc
      exact ⟨o, .sp ho⟩
    · cases e : lexC c r with
      | none => exact ⟨none, .bad hc e⟩
      | some tk =>
        obtain ⟨t, k⟩ := tk
        have hk := lexC_pos e
        obtain ⟨o, ho⟩ := lex_all n ((c :: r).drop k) (by rw [List.length_drop, List.length_cons]; omega)
        exact ⟨_, .tok hc e ho⟩
/-! ### quotes come in twos -/
def q34 (l : List Nat) : Nat := l.count 34
theorem q34_none {l : List Nat} (h : 34 ∉ l) : q34 l = 0 := List.count_eq_zero.mpr h
theorem q34_app (a b : List Nat) : q34 (a ++ b) = q34 a + q34 b := List.count_append
theorem run_take (cs l : List Nat) : l.take (run cs l) = l.takeWhile fun c => decide (c ∈ cs) := by
  unfold run
  exact (List.prefix_iff_eq_take.mp (List.takeWhile_prefix _)).symm
theorem mem_tw {p : Nat → Bool} {x : Nat} : ∀ {l : List Nat}, x ∈ l.takeWhile p → p x = true
  | [], h => by cases h
  | a :: l, h => by
    rw [List.takeWhile_cons] at h
    split at h
    · rename_i ha
      rcases List.mem_cons.mp h with rfl | h
      · exact ha
      · exact mem_tw h
    · cases h
theorem mem_run {cs l : List Nat} {c : Nat} (h : c ∈ l.take (run cs l)) : c ∈ cs := by
  rw [run_take] at h
  exact of_decide_eq_true (mem_tw h)
theorem at_tw {p : Nat → Bool} : ∀ {l : List Nat}, (l.takeWhile p).length < l.length → ∃ x, l[(l.takeWhile p).length]? = some x ∧ p x = false
  | [], h => by cases h
  | a :: l, h => by
    rw [List.takeWhile_cons] at h ⊢
    cases ha : p a with
    | true =>
      rw [ha] at h
      simp only [if_true, List.length_cons] at h ⊢
      obtain ⟨x, h1, h2⟩ := at_tw (p := p) (l := l) (by omega)
      exact ⟨x, by simpa using h1, h2⟩
    | false => exact ⟨a, by simp, ha⟩
theorem take_tw {p : Nat → Bool} (l : List Nat) : l.take (l.takeWhile p).length = l.takeWhile p := (List.prefix_iff_eq_take.mp (List.takeWhile_prefix _)).symm
theorem lexC_even {c : Nat} {r : List Nat} {t : Tok} {k : Nat} (h : lexC c r = some (t, k)) : q34 ((c :: r).take k) % 2 = 0 := by
  unfold lexC at h
  by_cases h1 : c ∈ LET
  · rw [if_pos h1] at h
    split at h
    · cases h
      rw [q34_none (fun z => absurd (mem_run z) (by decide))]
    · cases h
  rw [if_neg h1] at h
  by_cases h2 : c ∈ DIG
  · rw [if_pos h2] at h
    split at h
    · cases h
      rw [q34_none (fun z => absurd (mem_run z) (by decide))]
    · cases h
  rw [if_neg h2] at h
  by_cases h3 : c = 34
  · rw [if_pos h3] at h
    split at h
    · rename_i hk
      cases h
      subst h3
      have n1 : 34 ∉ r.take (toQ r) := fun z => by
        unfold toQ at z
        rw [take_tw] at z
        have := mem_tw z
        simp at this
      obtain ⟨x, hx, hp⟩ := at_tw (p := fun d => d != 34) (l := r) hk.1
      have hx' : x = 34 := by simpa using hp
      subst hx'
      have hx : r[toQ r]? = some 34 := hx
      rw [List.take_succ_cons, List.take_add_one, hx]
      show q34 ([34] ++ (r.take _ ++ [34])) % 2 = 0
      rw [q34_app, q34_app, q34_none n1]
      rfl
    · cases h
  rw [if_neg h3] at h
  split at h
  · cases h
    show q34 [c] % 2 = 0
    rw [q34_none (fun z => h3 (List.mem_singleton.mp z).symm)]
  · cases h
theorem lex_even {l : List Nat} {o : Option (List Tok)} (h : Lex l o) : o ≠ none → q34 l % 2 = 0 := by
  induction h with
  | nil => exact fun _ => rfl
  | sp _ ih =>
    intro h
    show q34 ([32] ++ _) % 2 = 0
    rw [q34_app]
    have := ih h
    have e : q34 [32] = 0 := rfl
    omega
  | bad _ _ => exact fun h => absurd rfl h
  | @tok c r t k o _ e _ ih =>
    intro h
    have h1 := lexC_even e
    have h2 := ih (fun z => h (by rw [z]; rfl))
    have e := q34_app ((c :: r).take k) ((c :: r).drop k)
    rw [List.take_append_drop] at e
    omega

/-! ### texts that are joined -/
/-- a token of the law's menu, spelled -/
def spell : Tok → List Nat
  | .word l => l
  | .num n => numT n
  | .str l => [34] ++ l ++ [34]
  | .sign c => [c]
/-- a token that is well made -/
def good : Tok → Prop
  | .word l => l ≠ [] ∧ l.length ≤ 6 ∧ ∀ c ∈ l, c ∈ LET
  | .num n => n ≤ 99999
  | .str l => l.length ≤ 20 ∧ ∀ c ∈ l, mayB c = true
  | .sign c => c ∈ SGN
/-- what may follow a token -/
def apart : Tok → List Nat → Prop
  | .word _, l => ∀ c r, l = c :: r → c ∉ LET
  | .num _, l => ∀ c r, l = c :: r → c ∉ DIG
  | _, _ => True
theorem run_all {cs a b : List Nat} (ha : ∀ c ∈ a, c ∈ cs) (hb : ∀ c r, b = c :: r → c ∉ cs) : run cs (a ++ b) = a.length := by
  unfold run
  rw [List.takeWhile_append_of_pos (fun c hc => decide_eq_true (ha c hc)), List.length_append]
  cases b with
  | nil => simp
  | cons c r => rw [List.takeWhile_cons, if_neg (by simpa using hb c r rfl)]; simp
theorem digits_len : ∀ (k m : Nat), m < 10 ^ (k + 1) → (Nat.toDigits 10 m).length ≤ k + 1
  | k, m, h => by
    by_cases hm : m < 10
    · rw [Nat.toDigits_of_lt_base hm]
      exact Nat.le_add_left _ _
    · cases k with
      | zero => exact absurd h hm
      | succ k =>
        have lt : m % 10 < 10 := Nat.mod_lt m (by decide)
        have t : Nat.toDigits 10 (m / 10) ++ Nat.toDigits 10 (m % 10) = Nat.toDigits 10 (10 * (m / 10) + m % 10) := Nat.toDigits_append_toDigits (by decide) (by omega) lt
        rw [Nat.div_add_mod] at t
        rw [← t, List.length_append, Nat.toDigits_of_lt_base lt]
        have := digits_len k (m / 10) (by rw [Nat.pow_succ] at h; omega)
        show (Nat.toDigits 10 (m / 10)).length + 1 ≤ k + 1 + 1
        omega
theorem numT_eq (n : Nat) : numT n = (Nat.toDigits 10 n).map Char.toNat := PySem.W.KIN.signs_num n
theorem numT_dig {n : Nat} (h : n ≤ 99999) : numT n ≠ [] ∧ (numT n).length ≤ 5 ∧ (∀ c ∈ numT n, c ∈ DIG) ∧ val (numT n) = n := by
  rw [numT_eq]
  refine ⟨fun e => ?_, ?_, fun c hc => ?_, PySem.W.KIN.val_back n⟩
  · have := PySem.W.KIN.val_back n
    have q := List.map_eq_nil_iff.mp e
    have l := toDigits_len_ge 10 n
    rw [q] at l
    exact absurd l (by decide)
  · rw [List.length_map]
    exact digits_len 4 n (by omega)
  · obtain ⟨ch, hch, e⟩ := List.mem_map.mp hc
    have r := PyProof.Rows.digit_range (Nat.isDigit_of_mem_toDigits (by decide) (by decide) hch)
    have hD : ∀ d, 48 ≤ d → d ≤ 57 → d ∈ DIG := by
      intro d h1 h2
      have : ∀ k, k < 10 → 48 + k ∈ DIG := by decide
      have q := this (d - 48) (by omega)
      rw [show 48 + (d - 48) = d by omega] at q
      exact q
    rw [← e]
    exact hD _ r.1 r.2
theorem let_dig {c : Nat} (h : c ∈ DIG) : c ∉ LET := fun z => by
  have : ∀ c ∈ DIG, c ∉ LET := by decide
  exact this c h z
theorem take_all {a b : List Nat} : (a ++ b).take a.length = a := List.take_left' rfl
theorem lex_spell {t : Tok} {b : List Nat} (g : good t) (ap : apart t b) : ∃ c r, spell t ++ b = c :: r ∧ c ≠ 32 ∧ lexC c r = some (t, (spell t).length) := by
  cases t with
  | word l =>
    obtain ⟨h1, h2, h3⟩ := g
    cases l with
    | nil => exact absurd rfl h1
    | cons c r =>
      have hc : c ∈ LET := h3 c List.mem_cons_self
      refine ⟨c, r ++ b, rfl, fun z => absurd hc (by rw [z]; decide), ?_⟩
      unfold lexC
      have e : run LET (c :: (r ++ b)) = (c :: r).length := run_all (a := c :: r) h3 ap
      rw [if_pos hc, e, if_pos h2]
      show some (Tok.word (((c :: r) ++ b).take (c :: r).length), _) = _
      rw [take_all]
      rfl
  | num n =>
    obtain ⟨h1, h2, h3, h4⟩ := numT_dig (show n ≤ 99999 from g)
    show ∃ c r, numT n ++ b = c :: r ∧ c ≠ 32 ∧ lexC c r = some (Tok.num n, (numT n).length)
    obtain ⟨l, hl⟩ : ∃ l, l = numT n := ⟨_, rfl⟩
    rw [← hl] at h1 h2 h3 h4 ⊢
    cases l with
    | nil => exact absurd rfl h1
    | cons c r =>
      have hc : c ∈ DIG := h3 c List.mem_cons_self
      refine ⟨c, r ++ b, rfl, fun z => absurd hc (by rw [z]; decide), ?_⟩
      unfold lexC
      have e : run DIG (c :: (r ++ b)) = (c :: r).length := run_all (a := c :: r) h3 ap
      have e2 : (c :: (r ++ b)).take (c :: r).length = c :: r := take_all (a := c :: r) (b := b)
      rw [if_neg (let_dig hc), if_pos hc, e, e2, h4, if_pos ⟨h2, hl⟩]
  | str l =>
    obtain ⟨h1, h2⟩ := g
    refine ⟨34, l ++ [34] ++ b, rfl, by decide, ?_⟩
    unfold lexC
    have n34 : ∀ c ∈ l, (c != 34) = true := fun c hc => by
      have := h2 c hc
      unfold mayB at this
      have := of_decide_eq_true this
      simp [this.2.2.2.1]
    have e : toQ (l ++ [34] ++ b) = l.length := by
      unfold toQ
      rw [List.append_assoc, List.takeWhile_append_of_pos n34, List.length_append]
      show l.length + (List.takeWhile _ (34 :: b)).length = _
      rw [List.takeWhile_cons, if_neg (by decide)]
      rfl
    have e2 : (l ++ [34] ++ b).take l.length = l := by rw [List.append_assoc]; exact take_all
    rw [if_neg (by decide), if_neg (by decide), if_pos rfl, e, e2, if_pos ⟨by simp, h1, List.all_eq_true.mpr h2⟩]
    show some (Tok.str l, l.length + 2) = some (Tok.str l, ([34] ++ l ++ [34]).length)
    simp
  | sign c =>
    have hs : c ∈ SGN := g
    have hd : ∀ c ∈ SGN, c ∉ LET ∧ c ∉ DIG ∧ c ≠ 34 ∧ c ≠ 32 := by decide
    obtain ⟨h1, h2, h3, h4⟩ := hd c hs
    refine ⟨c, b, rfl, h4, ?_⟩
    unfold lexC
    rw [if_neg h1, if_neg h2, if_neg h3, if_pos hs]
    rfl

/-- tokens with gaps of blanks behind them -/
def joined : List (Tok × Nat) → List Nat
  | [] => []
  | (t, g) :: r => spell t ++ List.replicate g 32 ++ joined r
/-- where a gap must stand -/
def gapped : List (Tok × Nat) → Prop
  | (t, g) :: (u, h) :: r => (g = 0 → apart t (spell u ++ (List.replicate h 32 ++ joined r))) ∧ gapped ((u, h) :: r)
  | _ => True
theorem lex_blanks {l : List Nat} {o : Option (List Tok)} (h : Lex l o) : ∀ g, Lex (List.replicate g 32 ++ l) o
  | 0 => h
  | g + 1 => by
    rw [List.replicate_succ]
    exact .sp (lex_blanks h g)
/-- a joined text is split into its tokens, and what stands behind is split as it is -/
theorem lex_joined {tail : List Nat} {o : Option (List Tok)} (ht : Lex tail o) (hs : ∀ c r, tail = c :: r → c = 32) :
    ∀ (l : List (Tok × Nat)), (∀ p ∈ l, good p.1) → gapped l → Lex (joined l ++ tail) (o.map (l.map (·.1) ++ ·))
  | [], _, _ => by
    have e : (o.map (([] : List (Tok × Nat)).map (·.1) ++ ·)) = o := by cases o <;> rfl
    rw [e]
    exact ht
  | (t, g) :: r, hg, hp => by
    have hr : Lex (joined r ++ tail) (o.map (r.map (·.1) ++ ·)) := lex_joined ht hs r (fun p h => hg p (List.mem_cons_of_mem _ h)) (by cases r with | nil => trivial | cons a b => exact hp.2)
    have ap : apart t (List.replicate g 32 ++ (joined r ++ tail)) := by
      have sp : ∀ l : List Nat, apart t (32 :: l) := fun l => by
        cases t with
        | word _ => exact fun c r e => by cases e; decide
        | num _ => exact fun c r e => by cases e; decide
        | str _ => trivial
        | sign _ => trivial
      cases g with
      | succ g => exact sp _
      | zero =>
        cases r with
        | nil =>
          cases tail with
          | nil => cases t <;> first | trivial | exact fun c r e => by cases e
          | cons c q => rw [hs c q rfl]; exact sp _
        | cons a b =>
          obtain ⟨u, h⟩ := a
          have q := hp.1 rfl
          show apart t (spell u ++ List.replicate h 32 ++ joined b ++ tail)
          have ne : spell u ≠ [] := by
            have gu := hg (u, h) (by simp)
            cases u with
            | word l => exact gu.1
            | num n => exact (numT_dig gu).1
            | str l => exact fun z => by cases z
            | sign c => exact fun z => by cases z
          cases e : spell u with
          | nil => exact absurd e ne
          | cons c v =>
            rw [e] at q
            cases t with
            | word _ => exact fun c' r' e' => by cases e'; exact q c _ rfl
            | num _ => exact fun c' r' e' => by cases e'; exact q c _ rfl
            | str _ => trivial
            | sign _ => trivial
    obtain ⟨c, v, e1, e2, e3⟩ := lex_spell (hg (t, g) List.mem_cons_self) ap
    have e0 : joined ((t, g) :: r) ++ tail = spell t ++ (List.replicate g 32 ++ (joined r ++ tail)) := by
      show spell t ++ List.replicate g 32 ++ joined r ++ tail = _
      simp only [List.append_assoc]
    rw [e0, e1]
    have e4 : (c :: v).drop (spell t).length = List.replicate g 32 ++ (joined r ++ tail) := by
      rw [← e1]
      exact List.drop_left' rfl
    have := Lex.tok e2 e3 (by rw [e4]; exact lex_blanks hr g)
    cases o with
    | none => exact this
    | some ts => exact this
end K1

set_option maxRecDepth 100000
set_option maxHeartbeats 4000000
namespace K1
open PySem PySem.Spec PyProof.Rows L2 GD
section
variable {P : Program} {w : World} {K : PySem.W.Frag} {mg : Str → Option Value} {base : Heap}

theorem item_S {L : List Nat} {i : Nat} {c : Nat} (h : L[i]? = some c) : (S L).cps[((i : Nat) : Int).toNat]? = some c := by
  show (L.toArray)[i]? = some c
  simpa using h
theorem cut_S (L : List Nat) (a b : Nat) (h1 : a ≤ b) (h2 : b ≤ L.length) : cutS (S L) (some (a : Nat)) (some (b : Nat)) = S ((L.drop a).take (b - a)) := by
  unfold cutS
  rw [S_len, HT.sIx_nat, HT.sIx_nat, Nat.min_eq_left h2, Nat.min_eq_left (by omega)]
  rfl
theorem smallL {n : Nat} (h : n ≤ 5000) : n ≤ sizeLine := Nat.le_trans h (by decide)

theorem in63 {L : List Nat} {e : Nat} (hl : L.length ≤ 5000) (lt : e < L.length) : ((e : Nat) : Int) < 2 ^ 63 := by
  have : e < 5000 := by omega
  omega
theorem in_S {L : List Nat} {e : Nat} (lt : e < L.length) : ((e : Nat) : Int) < (S L).length := by
  rw [S_len]
  omega
/-! ### end_of_run -/
def endRun (cs L : List Nat) (at_ : Nat) : Nat := at_ + run cs (L.drop at_)
theorem run_drop {cs L : List Nat} {i c : Nat} (h : L[i]? = some c) (hc : c ∈ cs) : endRun cs L i = endRun cs L (i + 1) := by
  unfold endRun run
  have e : L.drop i = c :: L.drop (i + 1) := by
    obtain ⟨h1, h2⟩ := List.getElem?_eq_some_iff.mp h
    rw [List.drop_eq_getElem_cons h1, h2]
  rw [e, List.takeWhile_cons, if_pos (decide_eq_true hc), List.length_cons]
  omega
theorem run_stop {cs L : List Nat} {i : Nat} (h : ∀ c, L[i]? = some c → c ∉ cs) : endRun cs L i = i := by
  unfold endRun run
  cases e : L.drop i with
  | nil => rfl
  | cons c r =>
    have q : L[i]? = some c := by
      have : (L.drop i)[0]? = some c := by rw [e]; rfl
      rw [List.getElem?_drop] at this
      exact this
    rw [List.takeWhile_cons, if_neg (by simpa using h c q)]
    rfl
def spEnd : Sp := fun vs H Q _ => ∃ (L cs : List Nat) (at_ : Nat), vs = [.str (S L), .int (at_ : Nat), .str (S cs)] ∧ at_ ≤ L.length ∧ L.length ≤ 5000 ∧ Q (.int (endRun cs L at_ : Nat)) H
theorem scEnd : FnScope ["line", "at", "characters", "end"] ["line", "at", "characters"] (defScope sEndOfRun) := ⟨rfl, rfl, rfl, by decide +kernel, rfl, by decide +kernel, by decide +kernel⟩
theorem ok_end {f : Addr} {fd : FuncData} (F : Fun K "end_of_run" "end_of_run" sEndOfRun f fd) (T : Txt K mg) : FnOk P w K mg base CX0 1 f fd ["line", "at", "characters"] spEnd := by
  have sc := scEnd
  refine F.ok sc (fun vs H Q E h => ?_) (fun cdv A outer s H vs Q E hr h => ?_)
  · obtain ⟨L, cs, at_, rfl, _⟩ := h
    rfl
  · obtain ⟨L, cs, at_, rfl, ha, hl, q⟩ := h
    refine ⟨_, (pss_cons (ps_set (i := 3) sc.nd rfl (.inl rfl) (pv 1))
(pss_cons (ps_while PassesOwn.never (PW.pt (pw_and (pt_cmpR op_lt (pv 3) (pe_callB call_len_str (by rfl) T.len (by decide +kernel) (pa_cons (pv 0) pa_nil)) (nomark _)) (pw_and1 (pt_cmpR op_in_sign (pe_item_str (pv 0) (pv 3) (fun _ _ => rfl)) (pv 2) rfl))))
(pss_one (ps_aug (i := 3) sc.nd rfl (.inl rfl) pe_int ip_add)))
(pss_one (ps_ret (pv 3))))), ?_⟩
    refine ⟨_, rfl, fun m σ H' => ∃ e : Nat, σ = [some (.str (S L)), some (.int (at_ : Nat)), some (.str (S cs)), some (.int (e : Nat))] ∧ H' = H ∧ e ≤ L.length ∧ m = L.length - e ∧ endRun cs L e = endRun cs L at_, ⟨_, at_, rfl, rfl, ha, rfl, rfl⟩, ?_⟩
    rintro m σ H' ⟨e, rfl, rfl, he, rfl, hq⟩
    have done : endRun cs L e = e → Q (.int (e : Nat)) H' := fun z => by rw [← hq, z] at q; exact q
    refine ⟨_, rfl, _, rfl, _, rfl, by rw [S_len]; exact smallL hl, _, _, rfl, rfl, _, rfl, ?_⟩
    refine ite2 (fun h1 => ?_) (fun h1 => ?_)
    · have lt : e < L.length := by
        have := of_decide_eq_true h1
        rw [S_len] at this
        omega
      have hx := List.getElem?_eq_getElem lt
      refine ⟨_, rfl, _, rfl, _, _, _, rfl, rfl, by omega, in63 hl lt, in_S lt, item_S hx, _, rfl, _, _, rfl, rfl, _, rfl, ite2 (fun h2 => ?_) (fun h2 => ?_)⟩
      · have h2 : L[e] ∈ cs := of_decide_eq_true h2
        refine ⟨fun σ' H2 => σ' = [some (.str (S L)), some (.int (at_ : Nat)), some (.str (S cs)), some (.int ((e + 1 : Nat) : Int))] ∧ H2 = H', fun σ' H2 h => ?_, _, rfl, _, _, rfl, rfl, rfl, rfl⟩
        obtain ⟨rfl, rfl⟩ := h
        exact ⟨_, by omega, e + 1, rfl, rfl, lt, rfl, by rw [← run_drop hx h2]; exact hq⟩
      · have h2 : L[e] ∉ cs := fun z => h2 (decide_eq_true z)
        exact ⟨_, rfl, done (run_stop fun c hc => by rw [hx] at hc; cases hc; exact h2)⟩
    · have ge : e = L.length := by
        have : ¬ ((e : Int) < (S L).length) := fun z => h1 (decide_eq_true z)
        rw [S_len] at this
        omega
      refine iteF ⟨_, rfl, done (run_stop fun c hc => ?_)⟩
      rw [ge, List.getElem?_eq_none (Nat.le_refl _)] at hc
      cases hc
end
end K1

set_option maxRecDepth 100000
set_option maxHeartbeats 4000000
namespace K1
open PySem PySem.Spec PyProof.Rows L2 GD
theorem pe_gstr {X : Cx} {x z : Str} {t : PySem.Tok} {pos : Pos} (hg : Gl X x) (hm : X.mg x = some (.str z t)) (hd : (x == ("__debug__" : Str)) = false := by decide) : PE X (.Name x pos) (tC (.str z)) := pe_glob hg hm ⟨_, rfl⟩ hd
theorem pe_gint {X : Cx} {x : Str} {i : Int} {t : PySem.Tok} {pos : Pos} (hg : Gl X x) (hm : X.mg x = some (.int i t)) (hd : (x == ("__debug__" : Str)) = false := by decide) : PE X (.Name x pos) (tC (.int i)) := pe_glob hg hm ⟨_, rfl⟩ hd
/-- all is kept but the table at P, which may have grown -/
def Kp (P : Addr) (H H' : Hp) : Prop := GxR.TabG H' P ∧ ∀ b o, b ≠ P → H b = some o → H' b = some o
theorem Same.kp {P : Addr} {H H' : Hp} (s : Same H H') (t : GxR.TabG H P) : Kp P H H' := by
  obtain ⟨ps, e, r⟩ := t
  exact ⟨⟨ps, s _ _ e, r⟩, fun b o _ h => s b o h⟩
theorem Kp.refl {P : Addr} {H : Hp} (t : GxR.TabG H P) : Kp P H H := Same.kp (Same.refl H) t
theorem Kp.trans {P : Addr} {H H1 H2 : Hp} (a : Kp P H H1) (b : Kp P H1 H2) : Kp P H H2 := ⟨b.1, fun c o n h => b.2 c o n (a.2 c o n h)⟩
theorem Kp.of {P : Addr} {H H' : Hp} (t : GxR.Tabbed P H H') : Kp P H H' := ⟨t.1, fun b o n h => by rw [t.2 b n]; exact h⟩
theorem TabG.ne {P p : Addr} {H : Hp} (t : GxR.TabG H P) (n : H p = none) : p ≠ P := fun e => by
  obtain ⟨ps, h, _⟩ := t
  rw [e, h] at n
  cases n
theorem Kp.free {P p : Addr} {H H' : Hp} (k : Kp P H H') (n : H' p = none) (t : GxR.TabG H P) : H p = none := by
  cases e : H p with
  | none => rfl
  | some o =>
    have := k.2 p o (TabG.ne k.1 n) e
    rw [n] at this
    cases this

theorem two_le : 2 ≤ sizeLine := by decide
def tokV : Tok → List V
  | .word l => [.str "word", .str (S l)]
  | .num n => [.str "number", .int (n : Nat)]
  | .str l => [.str "string", .str (S l)]
  | .sign c => [.str "sign", .str (S [c])]
/-- what a def gives back that reads one token -/
def TokRes (P : Addr) (H : Hp) (at_ : Nat) (o : Option (Tok × Nat)) (H' : Hp) (p : Addr) : Prop :=
  Kp P H H' ∧ H p = none ∧ (o = none → ∃ e : Int, H' p = some (.tup [.non, .int e])) ∧
    ∀ t k, o = some (t, k) → ∃ q, H q = none ∧ H' p = some (.tup [.ref q, .int ((at_ + k : Nat) : Int)]) ∧ H' q = some (.tup (tokV t))
def spTok (P : Addr) (ok : Nat → Prop) : Sp := fun vs H Q _ => ∃ (L : List Nat) (at_ c : Nat), vs = [.str (S L), .int (at_ : Nat)] ∧ L[at_]? = some c ∧ ok c ∧ L.length ≤ 5000 ∧ GxR.TabG H P ∧
  ∀ H' p, TokRes P H at_ (lexC c (L.drop (at_ + 1))) H' p → Q (.ref p) H'
theorem tok_none {P : Addr} {H : Hp} {at_ : Nat} {e : Int} {p : Addr} (t : GxR.TabG H P) (n : H p = none) : TokRes P H at_ none (upd H p (.tup [.non, .int e])) p :=
  ⟨Same.kp (Same.lst (Same.refl H) n) t, n, fun _ => ⟨e, upd_same⟩, fun _ _ z => by cases z⟩
theorem tok_some {P : Addr} {H : Hp} {at_ k : Nat} {t : Tok} {p q : Addr} (tb : GxR.TabG H P) (n : H q = none) (n2 : (upd H q (.tup (tokV t))) p = none) :
    TokRes P H at_ (some (t, k)) (upd (upd H q (.tup (tokV t))) p (.tup [.ref q, .int ((at_ + k : Nat) : Int)])) p := by
  have s1 : Same H (upd H q (.tup (tokV t))) := Same.lst (Same.refl H) n
  have np : H p = none := s1.free n2
  have ne : q ≠ p := ne_of_none (upd_same (H := H) (a := q) (o := .tup (tokV t))) n2
  refine ⟨Same.kp (Same.lst s1 np) tb, np, (fun z => by cases z), fun t' k' z => ?_⟩
  cases z
  exact ⟨q, n, upd_same, by rw [upd_ne ne, upd_same]⟩
theorem tok_kp {P : Addr} {H H1 H' : Hp} {at_ : Nat} {o : Option (Tok × Nat)} {p : Addr} (k : Kp P H H1) (tb : GxR.TabG H P) (r : TokRes P H1 at_ o H' p) : TokRes P H at_ o H' p := by
  obtain ⟨k1, n, h1, h2⟩ := r
  refine ⟨k.trans k1, k.free n tb, h1, fun t k' e => ?_⟩
  obtain ⟨q, n', e1, e2⟩ := h2 t k' e
  exact ⟨q, k.free n' tb, e1, e2⟩

section
variable {P : Program} {w : World} {K : PySem.W.Frag} {mg : Str → Option Value} {base : Heap}
theorem drop_at {L : List Nat} {i c : Nat} (h : L[i]? = some c) : L.drop i = c :: L.drop (i + 1) := by
  obtain ⟨h1, h2⟩ := List.getElem?_eq_some_iff.mp h
  rw [List.drop_eq_getElem_cons h1, h2]
theorem lt_at {L : List Nat} {i c : Nat} (h : L[i]? = some c) : i < L.length := (List.getElem?_eq_some_iff.mp h).1
theorem letS : (("abcdefghijklmnopqrstuvwxyz" : Str)) = S LET := (S_of _).symm
theorem digS : (("0123456789" : Str)) = S DIG := (S_of _).symm
theorem sgnS : (("(),;+-*<=" : Str)) = S SGN := (S_of _).symm
theorem cut_run {cs L : List Nat} {at_ : Nat} (h : at_ ≤ L.length) : cutS (S L) (some (at_ : Nat)) (some ((endRun cs L at_ : Nat) : Int)) = S ((L.drop at_).take (run cs (L.drop at_))) := by
  have := run_le cs (L.drop at_)
  rw [List.length_drop] at this
  rw [cut_S L at_ (endRun cs L at_) (by unfold endRun; omega) (by unfold endRun; omega)]
  unfold endRun
  rw [Nat.add_sub_cancel_left]

/-! ### word_at -/
theorem scWord : FnScope ["line", "at", "end"] ["line", "at"] (defScope sWordAt) := ⟨rfl, rfl, rfl, by decide +kernel, rfl, by decide +kernel, by decide +kernel⟩
theorem ok_word {f fe PT : Addr} {fd fde : FuncData} (F : Fun K "word_at" "word_at" sWordAt f fd) (T : Txt K mg) (FE : FnOk P w K mg base CX0 1 fe fde ["line", "at", "characters"] spEnd)
    (me : mg "end_of_run" = some (.ref fe)) (ke : PySem.W.keepIn K (.ref fe) = true) (be : Binds K fde ["line", "at", "characters"] []) : FnOk P w K mg base CX0 2 f fd ["line", "at"] (spTok PT (· ∈ LET)) := by
  have sc := scWord
  obtain ⟨tl, gl⟩ := T.LETTERS
  obtain ⟨tn, gn⟩ := T.NAME_MOST
  refine F.ok sc (fun vs H Q E h => ?_) (fun cdv A outer s H vs Q E hr h => ?_)
  · obtain ⟨L, a, c, rfl, _⟩ := h
    rfl
  · obtain ⟨L, a, c, rfl, hx, hc, hl, tb, q⟩ := h
    have lt := lt_at hx
    refine ⟨_, (pss_cons (ps_set (i := 2) sc.nd rfl (.inl rfl) (pe_call FE hr (by rfl) me ke be .nil pass0 (pa_cons (pv 0) (pa_cons (pv 1) (pa_cons (pe_gstr rfl gl) pa_nil)))))
(pss_cons (ps_if (pt_cmpR op_gt (pe_op op_sub (pv 2) (pv 1)) (pe_gint rfl gn) (nomark _))
(pss_one (ps_ret (pe_tup (pa_cons pe_non (pa_cons (pv 2) pa_nil))))) pss_nil)
(pss_one (ps_ret (pe_tup (pa_cons (pe_tup (pa_cons pe_str (pa_cons (pe_slice sl_str (pv 0) (po_some (pv 1)) (po_some (pv 2))) pa_nil))) (pa_cons (pv 2) pa_nil))))))), ?_⟩
    refine ⟨_, rfl, _, rfl, L, LET, a, by rw [letS]; rfl, Nat.le_of_lt lt, hl, ?_⟩
    have er : endRun LET L a = a + run LET (L.drop a) := rfl
    have ed := drop_at hx
    have elex : lexC c (L.drop (a + 1)) = (if run LET (L.drop a) ≤ 6 then some (.word ((L.drop a).take (run LET (L.drop a))), run LET (L.drop a)) else none) := by
      unfold lexC
      rw [if_pos hc, ← ed]
    refine ⟨_, rfl, _, rfl, _, _, rfl, rfl, _, _, rfl, rfl, _, rfl, ite2 (fun h => ?_) (fun h => ?_)⟩
    · have h1 : ¬ run LET (L.drop a) ≤ 6 := by
        have := of_decide_eq_true h
        rw [er] at this
        omega
      rw [if_neg h1] at elex
      rw [elex] at q
      exact ⟨_, rfl, two_le, fun p np => q _ p (tok_none tb np)⟩
    · have h1 : run LET (L.drop a) ≤ 6 := by
        have : ¬ ((6 : Int) < (endRun LET L a : Nat) - (a : Nat)) := fun z => h (decide_eq_true z)
        rw [er] at this
        omega
      rw [if_pos h1] at elex
      rw [elex] at q
      refine ⟨_, rfl, _, rfl, _, rfl, _, rfl, _, rfl, _, rfl, by rw [S_len]; exact smallL hl, two_le, fun u nu => ⟨_, rfl, two_le, fun p np => ?_⟩⟩
      rw [cut_run (Nat.le_of_lt lt)] at np ⊢
      rw [er]
      exact q _ p (tok_some tb nu np)

/-! ### number_at -/
theorem dig_range {c : Nat} (h : c ∈ DIG) : 48 ≤ c ∧ c ≤ 57 := by
  have : ∀ c ∈ DIG, 48 ≤ c ∧ c ≤ 57 := by decide
  exact this c h
theorem val_lt : ∀ (ds : List Nat) (acc : Nat), (∀ c ∈ ds, c ∈ DIG) → ds.foldl (fun acc c => acc * 10 + (c - 48)) acc < (acc + 1) * 10 ^ ds.length
  | [], acc, _ => by simp
  | c :: r, acc, h => by
    have hc := dig_range (h c List.mem_cons_self)
    have ih := val_lt r (acc * 10 + (c - 48)) (fun d hd => h d (List.mem_cons_of_mem _ hd))
    rw [List.foldl_cons, List.length_cons, Nat.pow_succ]
    refine Nat.lt_of_lt_of_le ih ?_
    rw [Nat.mul_comm (10 ^ r.length) 10, ← Nat.mul_assoc]
    exact Nat.mul_le_mul_right _ (by omega)
theorem val_small {ds : List Nat} (h : ∀ c ∈ ds, c ∈ DIG) (hl : ds.length ≤ 5) : val ds < 100000 := by
  have q := val_lt ds 0 h
  have e : 10 ^ ds.length ≤ 10 ^ 5 := Nat.pow_le_pow_right (by decide) hl
  unfold val
  omega
theorem log_small {n : Nat} (h : n < 100000) : ((n : Nat) : Int).natAbs.log2 < 1920 := by
  rw [Int.natAbs_natCast]
  by_cases h0 : n = 0
  · rw [h0]
    decide
  · have := (Nat.log2_lt (k := 1920) h0).mpr (Nat.lt_of_lt_of_le h (by
      have : 100000 ≤ 2 ^ 17 := by decide
      exact Nat.le_trans this (Nat.pow_le_pow_right (by decide) (by decide))))
    exact this
theorem scNum : FnScope ["line", "at", "end", "digits"] ["line", "at"] (defScope sNumberAt) := ⟨rfl, rfl, rfl, by decide +kernel, rfl, by decide +kernel, by decide +kernel⟩
theorem ok_num {f fe PT : Addr} {fd fde : FuncData} (F : Fun K "number_at" "number_at" sNumberAt f fd) (T : Txt K mg) (FE : FnOk P w K mg base CX0 1 fe fde ["line", "at", "characters"] spEnd)
    (me : mg "end_of_run" = some (.ref fe)) (ke : PySem.W.keepIn K (.ref fe) = true) (be : Binds K fde ["line", "at", "characters"] []) : FnOk P w K mg base CX0 2 f fd ["line", "at"] (spTok PT (· ∈ DIG)) := by
  have sc := scNum
  obtain ⟨tl, gl⟩ := T.DIGITS
  obtain ⟨tn, gn⟩ := T.NUMBER_MOST
  refine F.ok sc (fun vs H Q E h => ?_) (fun cdv A outer s H vs Q E hr h => ?_)
  · obtain ⟨L, a, c, rfl, _⟩ := h
    rfl
  · obtain ⟨L, a, c, rfl, hx, hc, hl, tb, q⟩ := h
    have lt := lt_at hx
    refine ⟨_, (pss_cons (ps_set (i := 2) sc.nd rfl (.inl rfl) (pe_call FE hr (by rfl) me ke be .nil pass0 (pa_cons (pv 0) (pa_cons (pv 1) (pa_cons (pe_gstr rfl gl) pa_nil)))))
(pss_cons (ps_set (i := 3) sc.nd rfl (.inl rfl) (pe_slice sl_str (pv 0) (po_some (pv 1)) (po_some (pv 2))))
(pss_cons (ps_if (PW.pt (pw_or (pt_cmpR op_gt (pe_callB call_len_str (by rfl) T.len (by decide +kernel) (pa_cons (pv 3) pa_nil)) (pe_callB call_len_str (by rfl) T.len (by decide +kernel) (pa_cons (pe_callTy call_str_int (by rfl) T.bstr (by decide +kernel) (pa_cons (pe_gint rfl gn) pa_nil)) pa_nil)) (nomark _)) (pw_or1 (pt_cmpR op_ne (pv 3) (pe_callTy call_str_int (by rfl) T.bstr (by decide +kernel) (pa_cons (pe_callTy call_int_str (by rfl) T.bint (by decide +kernel) (pa_cons (pv 3) pa_nil)) pa_nil)) (nomark _)))))
(pss_one (ps_ret (pe_tup (pa_cons pe_non (pa_cons (pv 2) pa_nil))))) pss_nil)
(pss_one (ps_ret (pe_tup (pa_cons (pe_tup (pa_cons pe_str (pa_cons (pe_callTy call_int_str (by rfl) T.bint (by decide +kernel) (pa_cons (pv 3) pa_nil)) pa_nil))) (pa_cons (pv 2) pa_nil)))))))), ?_⟩
    refine ⟨_, rfl, _, rfl, L, DIG, a, by rw [digS]; rfl, Nat.le_of_lt lt, hl, ?_⟩
    have er : endRun DIG L a = a + run DIG (L.drop a) := rfl
    have ed := drop_at hx
    have nl : c ∉ LET := let_dig hc
    obtain ⟨ds, eds⟩ : ∃ ds, ds = (L.drop a).take (run DIG (L.drop a)) := ⟨_, rfl⟩
    have dlen : ds.length = run DIG (L.drop a) := by rw [eds, List.length_take, Nat.min_eq_left (run_le _ _)]
    have dall : ∀ d ∈ ds, d ∈ DIG := fun d hd => by rw [eds] at hd; exact mem_run hd
    have dne : ds ≠ [] := fun z => by
      have h1 : 1 ≤ run DIG (L.drop a) := by rw [ed]; exact run_pos hc
      rw [z] at dlen
      simp at dlen
      omega
    have elex : lexC c (L.drop (a + 1)) = (if run DIG (L.drop a) ≤ 5 ∧ ds = numT (val ds) then some (.num (val ds), run DIG (L.drop a)) else none) := by
      unfold lexC
      rw [if_neg nl, if_pos hc, ← ed, ← eds]
    refine ⟨_, rfl, _, rfl, _, rfl, _, rfl, _, rfl, _, rfl, by rw [S_len]; exact smallL hl, ?_⟩
    rw [cut_run (Nat.le_of_lt lt), ← eds]
    have dsz : ds.length ≤ 5000 := by
      have := run_le DIG (L.drop a)
      rw [List.length_drop] at this
      omega
    refine ⟨_, rfl, _, rfl, by rw [S_len]; exact smallL dsz, _, rfl, by decide, _, rfl, by decide, _, _, rfl, rfl, _, rfl, ?_⟩
    have rdI : ds.length ≤ 5 → PySem.intText? (S ds) = some ((val ds : Nat) : Int) ∧ (S ds).length ≤ 640 := fun h => by
      refine ⟨PySem.intText_digits (x := S ds) (fun d hd => dig_range (dall d hd)) dne (by rw [S_len]; omega), by rw [S_len]; omega⟩
    have bad : ∀ e : Int, lexC c (L.drop (a + 1)) = none → ∀ p, H p = none → Q (.ref p) (upd H p (.tup [.non, .int e])) := fun e z p np => by
      rw [z] at q
      exact q _ p (tok_none tb np)
    refine ite2 (fun h => ?_) (fun h => ?_)
    · have h1 : ¬ run DIG (L.drop a) ≤ 5 := by
        have h := of_decide_eq_true h
        rw [S_len, dlen] at h
        have e5 : ((toString (99999 : Int) : Str)).length = 5 := by decide
        rw [e5] at h
        omega
      refine iteT ⟨_, rfl, two_le, fun p np => bad _ ?_ p np⟩
      rw [elex, if_neg (fun z => h1 z.1)]
    · have h1 : ds.length ≤ 5 := by
        have e5 : ((toString (99999 : Int) : Str)).length = 5 := by decide
        have : ¬ (((toString (99999 : Int) : Str)).length : Int) < (S ds).length := fun z => h (decide_eq_true z)
        rw [S_len, e5] at this
        omega
      obtain ⟨r1, r2⟩ := rdI h1
      refine ⟨_, rfl, _, rfl, _, _, rfl, r1, r2, _, rfl, log_small (val_small dall h1), rfl, _, rfl, ?_⟩
      have cmp : ∀ {A B : Prop}, (ds = numT (val ds) → B) → (ds ≠ numT (val ds) → A) → if (!decide (V.str (S ds) = V.str (toString ((val ds : Nat) : Int) : Str))) = true then A else B := fun hB hA => by
        by_cases z : ds = numT (val ds)
        · have e : V.str (S ds) = V.str (toString ((val ds : Nat) : Int) : Str) := by
            have : S ds = (Str.ofString (toString ((val ds : Nat) : Int))) := by
              rw [← S_of (Str.ofString (toString ((val ds : Nat) : Int)))]
              exact congrArg S z
            rw [this]
          rw [decide_eq_true e]
          exact iteF (hB z)
        · have e : V.str (S ds) ≠ V.str (toString ((val ds : Nat) : Int) : Str) := fun y => z (by
            injection y with y
            exact congrArg (fun z : Str => z.cps.toList) y)
          rw [decide_eq_false e]
          exact iteT (hA z)
      refine cmp (fun z => ?_) (fun z => ?_)
      · rw [if_pos ⟨by omega, z⟩] at elex
        rw [elex] at q
        refine ⟨_, rfl, _, _, rfl, r1, r2, two_le, fun u nu => ⟨_, rfl, two_le, fun p np => ?_⟩⟩
        rw [er]
        exact q _ p (tok_some tb nu np)
      · refine ⟨_, rfl, two_le, fun p np => bad _ ?_ p np⟩
        rw [elex, if_neg (fun y => z y.2)]
end
end K1

set_option maxRecDepth 100000
set_option maxHeartbeats 4000000
namespace K1
open PySem PySem.Spec PyProof.Rows L2 GD
section
variable {P : Program} {w : World} {K : PySem.W.Frag} {mg : Str → Option Value} {base : Heap}

/-- what the generator expressions' scopes say -/
def genScope (e : Expr) : Scope := match e with
  | .Call _ [.GeneratorExp _ _ sc _] _ _ => sc
  | _ => { kind := .function, names := [], isGenerator := false, isCoroutine := false }
def retE (s : Stmt) : Expr := match s with
  | .Return (some e) _ => e
  | _ => .Constant .none 0 ⟨0, 0, 0, 0⟩
def gsVal : Scope := genScope (retE ((defBody sIsValue).getD 3 (.Pass ⟨0, 0, 0, 0⟩)))
def gsNam : Scope := genScope (retE ((defBody sIsName).getD 1 (.Pass ⟨0, 0, 0, 0⟩)))
theorem gsVal_cell : ∀ y ∈ gsVal.names, y.2 ≠ .cell := by decide +kernel
theorem gsVal_free : ∀ y ∈ gsVal.names, y.2 ≠ .free := by decide +kernel
theorem gsNam_cell : ∀ y ∈ gsNam.names, y.2 ≠ .cell := by decide +kernel
theorem gsNam_free : ∀ y ∈ gsNam.names, y.2 ≠ .free := by decide +kernel

def strV (z : Str) : Bool := decide (z.length ≤ 20) && z.cps.toList.all mayC
def spValue (PV : Addr) : Sp := fun vs H Q _ => (∃ z : Str, vs = [.str z] ∧ z.length ≤ 5000 ∧ GxR.TabG H PV ∧ ∀ H', Kp PV H H' → Q (.bl (strV z)) H') ∨
  ∃ i : Int, vs = [.int i] ∧ Q (.bl (decide (-99999 ≤ i ∧ i ≤ 99999))) H
theorem scVal : FnScope ["value"] ["value"] (defScope sIsValue) := ⟨rfl, rfl, rfl, by decide +kernel, rfl, by decide +kernel, by decide +kernel⟩
theorem ok_value {f cV PV : Addr} {oc : Value} {od an : Option Addr} {osl : Array (Option Value)} {kV doc pm cdv ct : Value}
    (lk : K.lookup f = some ⟨oc, od, .func (PySem.W.fnOf "is_value" "is_value" (defArgs sIsValue) (defBody sIsValue) (defScope sIsValue) .none kV doc pm an cdv ct), osl⟩)
    (hcd : PySem.W.codeIn K cdv "is_value" = true) (ecd : cdv = .ref cV) (TB : GxR.TabB base mg cV PV) (T : Txt K mg) :
    FnOk P w K mg base CX0 2 f (PySem.W.fnOf "is_value" "is_value" (defArgs sIsValue) (defBody sIsValue) (defScope sIsValue) .none kV doc pm an cdv ct) ["value"] (spValue PV) := by
  have sc := scVal
  obtain ⟨t1, g1⟩ := T.CHARACTERS
  obtain ⟨t4, g4⟩ := T.NUMBER_MOST
  obtain ⟨t5, g5⟩ := T.STRING_MOST
  refine okC lk hcd sc (fun vs H Q E h => ?_) (fun A outer s H vs Q E hr h => ?_)
  · rcases h with ⟨z, rfl, _⟩ | ⟨i, rfl, _⟩ <;> rfl
  · have hdep : (A.deeper (envOfC "is_value" (defScope sIsValue) s.heap.objs.size f cdv)).depth + 1 < recursionLimit := by
      have := hr.dp
      omega
    refine ⟨_, (pss_cons (ps_if (pt_val (pe_callB call_isi (by rfl) T.isinstance (by decide +kernel) (pa_cons (pv 0) (pa_cons (pe_bltn (v := .ty "bool") (by rfl) T.bbool (by decide +kernel) rfl) pa_nil))))
(pss_one (ps_ret pe_bl)) pss_nil)
(pss_cons (ps_if (pt_val (pe_callB call_isi (by rfl) T.isinstance (by decide +kernel) (pa_cons (pv 0) (pa_cons (pe_bltn (v := .ty "int") (by rfl) T.bint (by decide +kernel) rfl) pa_nil))))
(pss_one (ps_ret (pe_chain op_le op_le (pe_un un_neg (pe_gint rfl g4)) (pv 0) (pe_gint rfl g4)))) pss_nil)
(pss_cons (ps_if (PW.pt (pw_or (pt_not (pt_val (pe_callB call_isi (by rfl) T.isinstance (by decide +kernel) (pa_cons (pv 0) (pa_cons (pe_bltn (v := .ty "str") (by rfl) T.bstr (by decide +kernel) rfl) pa_nil))))) (pw_or1 (pt_cmpR op_gt (pe_callB call_len_str (by rfl) T.len (by decide +kernel) (pa_cons (pv 0) pa_nil)) (pe_gint rfl g5) (nomark _)))))
(pss_one (ps_ret pe_bl)) pss_nil)
(pss_one (ps_ret (pe_allD (scope := gsVal) hr rfl T.all TB (by rw [← ecd]; rfl) ⟨rfl, rfl, gsVal_cell, rfl, rfl, fun y hy e => absurd e (gsVal_free y hy)⟩ (pv 0)
  (fun hB => elt_val (X := (cxOf CX0 P w K mg base _ _ _ f cdv A outer s H E).nox) rfl hB rfl rfl rfl g1) (fun _ => rfl))))))), ?_⟩
    rcases h with ⟨z, rfl, hz, tb, q⟩ | ⟨i, rfl, q⟩
    · refine ⟨_, rfl, _, _, _, _, false, rfl, .ty _, .base (.str _), kit_ty (by decide +kernel), _, rfl, iteF ?_⟩
      refine ⟨_, rfl, _, _, _, _, false, rfl, .ty _, .base (.str _), kit_ty (by decide +kernel), _, rfl, iteF ?_⟩
      refine ⟨_, rfl, _, _, _, _, true, rfl, .ty _, .base (.str _), kit_ty (by decide +kernel), _, rfl, iteF ?_⟩
      refine ⟨_, rfl, _, rfl, smallL hz, _, _, rfl, rfl, _, rfl, ite2 (fun h => ?_) (fun h => ?_)⟩
      · have h := of_decide_eq_true h
        have e : strV z = false := by
          unfold strV
          rw [decide_eq_false (by omega), Bool.false_and]
        have := q H (Kp.refl tb)
        rw [e] at this
        exact this
      · have h : ¬ ((20 : Int) < z.length) := fun y => h (decide_eq_true y)
        have e : strV z = z.cps.toList.all mayC := by
          unfold strV
          rw [decide_eq_true (by omega), Bool.true_and]
        refine ⟨_, rfl, z, rfl, tb, fun H2 t => ?_⟩
        have := q H2 (Kp.of t)
        rw [e] at this
        exact this
    · refine ⟨_, rfl, _, _, _, _, false, rfl, .ty _, .base (.int _), kit_ty (by decide +kernel), _, rfl, iteF ?_⟩
      refine ⟨_, rfl, _, _, _, _, true, rfl, .ty _, .base (.int _), kit_ty (by decide +kernel), _, rfl, iteT ?_⟩
      refine ⟨_, rfl, _, rfl, _, _, rfl, rfl, _, rfl, ?_⟩
      refine ite2 (fun h => ?_) (fun h => ?_)
      · have h : (-99999 : Int) ≤ i := of_decide_eq_true h
        refine ⟨_, _, rfl, rfl, ?_⟩
        have e : decide (-99999 ≤ i ∧ i ≤ 99999) = decide (i ≤ 99999) := by
          by_cases h2 : i ≤ 99999
          · rw [decide_eq_true h2, decide_eq_true ⟨h, h2⟩]
          · rw [decide_eq_false h2, decide_eq_false fun z => h2 z.2]
        rw [e] at q
        exact q
      · have h : ¬ (-99999 : Int) ≤ i := fun z => h (decide_eq_true z)
        have e : decide (-99999 ≤ i ∧ i ≤ 99999) = false := decide_eq_false fun z => h z.1
        rw [e] at q
        exact q

/-! ### is_name -/
def nameB (z : Str) : Bool := decide (1 ≤ z.length ∧ z.length ≤ 6) && !(inV (.str z) (kw13.map V.str)) && z.cps.toList.all fun c => decide (c ∈ LET)
def spName (PN : Addr) : Sp := fun vs H Q _ => ∃ z : Str, vs = [.str z] ∧ z.length ≤ 5000 ∧ GxR.TabG H PN ∧ ∀ H', Kp PN H H' → Q (.bl (nameB z)) H'
theorem scNam : FnScope ["text"] ["text"] (defScope sIsName) := ⟨rfl, rfl, rfl, by decide +kernel, rfl, by decide +kernel, by decide +kernel⟩
theorem ok_name {f cN PN : Addr} {oc : Value} {od an : Option Addr} {osl : Array (Option Value)} {kV doc pm cdv ct : Value}
    (lk : K.lookup f = some ⟨oc, od, .func (PySem.W.fnOf "is_name" "is_name" (defArgs sIsName) (defBody sIsName) (defScope sIsName) .none kV doc pm an cdv ct), osl⟩)
    (hcd : PySem.W.codeIn K cdv "is_name" = true) (ecd : cdv = .ref cN) (TB : GxR.TabB base mg cN PN) (T : Txt K mg) :
    FnOk P w K mg base CX0 1 f (PySem.W.fnOf "is_name" "is_name" (defArgs sIsName) (defBody sIsName) (defScope sIsName) .none kV doc pm an cdv ct) ["text"] (spName PN) := by
  have sc := scNam
  obtain ⟨t1, g1⟩ := T.LETTERS
  obtain ⟨t4, g4⟩ := T.NAME_MOST
  obtain ⟨ra, gr, hres⟩ := T.RESERVED
  refine okC lk hcd sc (fun vs H Q E h => ?_) (fun A outer s H vs Q E hr h => ?_)
  · obtain ⟨z, rfl, _⟩ := h
    rfl
  · obtain ⟨z, rfl, hz, tb, q⟩ := h
    refine ⟨_, (pss_cons (ps_if (PW.pt (pw_or (pt_not (pt_chain op_le op_le pe_int (pe_callB call_len_str (by rfl) T.len (by decide +kernel) (pa_cons (pv 0) pa_nil)) (pe_gint rfl g4))) (pw_or1 (pt_cmpR op_in_seq (pv 0) (pe_glob (v := .ref ra) rfl gr rfl) rfl))))
(pss_one (ps_ret pe_bl)) pss_nil)
(pss_one (ps_ret (pe_allD (scope := gsNam) hr rfl T.all TB (by rw [← ecd]; rfl) ⟨rfl, rfl, gsNam_cell, rfl, rfl, fun y hy e => absurd e (gsNam_free y hy)⟩ (pv 0)
  (fun hB => elt_inSigns (X := (cxOf CX0 P w K mg base _ _ _ f cdv A outer s H E).nox) rfl hB rfl rfl rfl g1) (fun _ => rfl))))), ?_⟩
    have bad : nameB z = false → Q (.bl false) H := fun e => by
      have := q H (Kp.refl tb)
      rw [e] at this
      exact this
    have flatR : (kw13.map V.str).all flatV = true := rfl
    refine ⟨_, rfl, _, rfl, smallL hz, _, _, rfl, rfl, _, rfl, ?_⟩
    refine ite2 (fun h => ?_) (fun h => ?_)
    · have h : (1 : Int) ≤ z.length := of_decide_eq_true h
      refine ⟨_, _, rfl, rfl, _, rfl, ?_⟩
      by_cases h2 : ((z.length : Nat) : Int) ≤ 6
      · refine iteNS h2 ?_
        refine ⟨_, rfl, ra, _, rfl, .inr (hres _), rfl, flatR, _, rfl, ite2 (fun h3 => ?_) (fun h3 => ?_)⟩
        · refine bad ?_
          unfold nameB
          have h3 : inV (.str z) (kw13.map V.str) = true := h3
          rw [h3]
          simp
        · have h3 : inV (.str z) (kw13.map V.str) = false := by
            cases e : inV (.str z) (kw13.map V.str) with
            | false => rfl
            | true => exact absurd e h3
          have e : nameB z = z.cps.toList.all fun c => decide (c ∈ LET) := by
            unfold nameB
            rw [h3, decide_eq_true ⟨by omega, by omega⟩]
            rfl
          refine ⟨_, rfl, z, rfl, tb, fun H2 t => ?_⟩
          have := q H2 (Kp.of t)
          rw [e] at this
          exact this
      · show if (!decide (((z.length : Nat) : Int) ≤ 6)) = true then _ else _
        rw [decide_eq_false h2]
        refine iteT (bad ?_)
        unfold nameB
        rw [decide_eq_false (fun z => h2 (by omega))]
        rfl
    · have h : ¬ (1 : Int) ≤ z.length := fun z => h (decide_eq_true z)
      refine ⟨_, rfl, iteT (bad ?_)⟩
      unfold nameB
      rw [decide_eq_false (fun z => h (by omega))]
      rfl
end
end K1

set_option maxRecDepth 100000
set_option maxHeartbeats 4000000
namespace K1
open PySem PySem.Spec PyProof.Rows L2 GD
section
variable {P : Program} {w : World} {K : PySem.W.Frag} {mg : Str → Option Value} {base : Heap}

theorem may_eq : mayC = mayB := rfl
theorem toQ_none {r : List Nat} (h : 34 ∉ r) : toQ r = r.length := by
  unfold toQ
  have e := List.takeWhile_append_of_pos (p := fun d => d != 34) (l₁ := r) (l₂ := []) (fun c hc => bne_iff_ne.mpr fun z => h (z ▸ hc))
  rw [List.append_nil] at e
  rw [e]
  simp
theorem toQ_some {r : List Nat} {k : Nat} (h : r[k]? = some 34) (n : 34 ∉ r.take k) : toQ r = k := by
  have lt : k < r.length := (List.getElem?_eq_some_iff.mp h).1
  have e : r = r.take k ++ (34 :: r.drop (k + 1)) := by
    rw [← drop_at h, List.take_append_drop]
  unfold toQ
  have e2 := List.takeWhile_append_of_pos (p := fun d => d != 34) (l₁ := r.take k) (l₂ := 34 :: r.drop (k + 1)) (fun c hc => bne_iff_ne.mpr fun z => n (z ▸ hc))
  rw [← e] at e2
  rw [e2, List.takeWhile_cons, if_neg (by decide), List.append_nil, List.length_take]
  omega
theorem q34c : ("\"" : Str) = (⟨#[34]⟩ : Str) := rfl
theorem scStr : FnScope ["line", "at", "end"] ["line", "at"] (defScope sStringAt) := ⟨rfl, rfl, rfl, by decide +kernel, rfl, by decide +kernel, by decide +kernel⟩
theorem ok_str {f fv PT : Addr} {fd fdv : FuncData} (F : Fun K "string_at" "string_at" sStringAt f fd) (T : Txt K mg) (FV : FnOk P w K mg base CX0 2 fv fdv ["value"] (spValue PT))
    (mv : mg "is_value" = some (.ref fv)) (kv : PySem.W.keepIn K (.ref fv) = true) (bv : Binds K fdv ["value"] []) : FnOk P w K mg base CX0 3 f fd ["line", "at"] (spTok PT (· = 34)) := by
  have sc := scStr
  refine F.ok sc (fun vs H Q E h => ?_) (fun cdv A outer s H vs Q E hr h => ?_)
  · obtain ⟨L, a, c, rfl, _⟩ := h
    rfl
  · obtain ⟨L, a, c, rfl, hx, rfl, hl, tb, q⟩ := h
    have lt := lt_at hx
    refine ⟨_, (pss_cons (ps_set (i := 2) sc.nd rfl (.inl rfl) (pe_bm PySem.F.plainAttrs_str PySem.F.slot_str_find PySem.F.type_str_find mt_find3 (pv 0) (pa_cons pe_str (pa_cons (pe_op op_add (pv 1) pe_int) pa_nil))))
(pss_cons (ps_if (PW.pt (pw_or (pt_cmpR op_lt (pv 2) pe_int (nomark _)) (pw_or1 (pt_not (pt_val (pe_call FV hr (by rfl) mv kv bv .nil pass0 (pa_cons (pe_slice sl_str (pv 0) (po_some (pe_op op_add (pv 1) pe_int)) (po_some (pv 2))) pa_nil)))))))
(pss_one (ps_ret (pe_tup (pa_cons pe_non (pa_cons (pv 2) pa_nil))))) pss_nil)
(pss_one (ps_ret (pe_tup (pa_cons (pe_tup (pa_cons pe_str (pa_cons (pe_slice sl_str (pv 0) (po_some (pe_op op_add (pv 1) pe_int)) (po_some (pv 2))) pa_nil))) (pa_cons (pe_op op_add (pv 2) pe_int) pa_nil))))))), ?_⟩
    obtain ⟨r, er⟩ : ∃ r, r = L.drop (a + 1) := ⟨_, rfl⟩
    have elex : lexC 34 r = (if toQ r < r.length ∧ toQ r ≤ 20 ∧ (r.take (toQ r)).all mayB = true then some (.str (r.take (toQ r)), toQ r + 2) else none) := by
      unfold lexC
      rw [if_neg (by decide), if_neg (by decide), if_pos rfl]
    rw [← er] at q
    have e1 : (((a : Nat) : Int) + 1) = ((a + 1 : Nat) : Int) := rfl
    have bad : ∀ (H1 : Hp) (e : Int), Kp PT H H1 → lexC 34 r = none → ∀ p, H1 p = none → Q (.ref p) (upd H1 p (.tup [.non, .int e])) := fun H1 e k z p np => by
      rw [z] at q
      exact q _ p (tok_kp k tb (tok_none k.1 np))
    refine ⟨_, rfl, rfl, _, rfl, _, _, rfl, rfl, S L, ⟨#[34]⟩, ((a + 1 : Nat) : Int), rfl, rfl, ?_⟩
    rcases find_one (S L) 34 (a + 1) (by rw [S_len]; omega) with ⟨f1, f2⟩ | ⟨k, f1, f2, f3⟩
    · rw [S_toList, ← er] at f2
      rw [f1]
      refine ⟨_, rfl, _, _, rfl, rfl, _, rfl, ?_⟩
      refine iteT ⟨_, rfl, two_le, fun p np => bad H _ (Kp.refl tb) ?_ p np⟩
      rw [elex, toQ_none f2, if_neg (fun z => absurd z.1 (Nat.lt_irrefl _))]
    · rw [S_toList, ← er] at f2 f3
      rw [f1]
      have eq := toQ_some f2 f3
      have kl : k < r.length := (List.getElem?_eq_some_iff.mp f2).1
      have rl : r.length = L.length - (a + 1) := by rw [er, List.length_drop]
      have ecut : cutS (S L) (some (((a : Nat) : Int) + 1)) (some ((a + 1 + k : Nat) : Int)) = S (r.take k) := by
        rw [e1, cut_S L (a + 1) (a + 1 + k) (by omega) (by omega), ← er, Nat.add_sub_cancel_left]
      refine ⟨_, rfl, _, _, rfl, rfl, _, rfl, ?_⟩
      have n0 : ¬ (((a + 1 + k : Nat) : Int) < 0) := by omega
      show if decide (((a + 1 + k : Nat) : Int) < 0) = true then _ else _
      rw [decide_eq_false n0]
      refine iteF ⟨_, rfl, _, rfl, _, _, rfl, rfl, _, rfl, _, rfl, _, rfl, S L, rfl, by rw [S_len]; exact smallL hl, ?_⟩
      rw [ecut]
      have tl : (r.take k).length = k := by rw [List.length_take]; omega
      refine .inl ⟨S (r.take k), rfl, by rw [S_len]; omega, tb, fun H1 k1 => ?_⟩
      have ev : strV (S (r.take k)) = (decide (k ≤ 20) && (r.take k).all mayB) := by
        unfold strV
        rw [S_len, tl]
        rfl
      refine ⟨_, rfl, ?_⟩
      rw [ev]
      rw [eq] at elex
      cases hb : (decide (k ≤ 20) && (r.take k).all mayB) with
      | false =>
        refine iteT ⟨_, rfl, two_le, fun p np => bad H1 _ k1 ?_ p np⟩
        rw [elex, if_neg (fun z => ?_)]
        rw [decide_eq_true z.2.1, z.2.2] at hb
        cases hb
      | true =>
        rw [Bool.and_eq_true] at hb
        have hk := of_decide_eq_true hb.1
        rw [if_pos ⟨kl, hk, hb.2⟩] at elex
        rw [elex] at q
        refine iteF ⟨_, rfl, _, rfl, _, _, rfl, rfl, _, rfl, _, rfl, _, rfl, S L, rfl, by rw [S_len]; exact smallL hl, ?_⟩
        rw [ecut]
        refine ⟨two_le, fun u nu => ⟨_, rfl, _, _, rfl, rfl, two_le, fun p np => ?_⟩⟩
        have en : (((a + 1 + k : Nat) : Int) + 1) = ((a + (k + 2) : Nat) : Int) := by omega
        show Q (.ref p) (upd _ p (.tup [.ref u, .int (((a + 1 + k : Nat) : Int) + 1)]))
        rw [en]
        exact q _ p (tok_kp k1 tb (tok_some k1.1 nu np))
end
end K1

set_option maxRecDepth 100000
set_option maxHeartbeats 4000000
namespace K1
open PySem PySem.Spec PyProof.Rows L2 GD
section
variable {P : Program} {w : World} {K : PySem.W.Frag} {mg : Str → Option Value} {base : Heap}

/-! ### token_at -/
theorem scTokA : FnScope ["line", "at", "first"] ["line", "at"] (defScope sTokenAt) := ⟨rfl, rfl, rfl, by decide +kernel, rfl, by decide +kernel, by decide +kernel⟩
theorem ok_tokat {f f1 f2 f3 PT : Addr} {fd fd1 fd2 fd3 : FuncData} (F : Fun K "token_at" "token_at" sTokenAt f fd) (T : Txt K mg)
    (F1 : FnOk P w K mg base CX0 3 f1 fd1 ["line", "at"] (spTok PT (· ∈ LET))) (m1 : mg "word_at" = some (.ref f1)) (k1 : PySem.W.keepIn K (.ref f1) = true) (b1 : Binds K fd1 ["line", "at"] [])
    (F2 : FnOk P w K mg base CX0 3 f2 fd2 ["line", "at"] (spTok PT (· ∈ DIG))) (m2 : mg "number_at" = some (.ref f2)) (k2 : PySem.W.keepIn K (.ref f2) = true) (b2 : Binds K fd2 ["line", "at"] [])
    (F3 : FnOk P w K mg base CX0 3 f3 fd3 ["line", "at"] (spTok PT (· = 34))) (m3 : mg "string_at" = some (.ref f3)) (k3 : PySem.W.keepIn K (.ref f3) = true) (b3 : Binds K fd3 ["line", "at"] []) :
    FnOk P w K mg base CX0 4 f fd ["line", "at"] (spTok PT fun _ => True) := by
  have sc := scTokA
  obtain ⟨t1, g1⟩ := T.LETTERS
  obtain ⟨t2, g2⟩ := T.DIGITS
  obtain ⟨t3, g3⟩ := T.SIGNS
  refine F.ok sc (fun vs H Q E h => ?_) (fun cdv A outer s H vs Q E hr h => ?_)
  · obtain ⟨L, a, c, rfl, _⟩ := h
    rfl
  · obtain ⟨L, a, c, rfl, hx, _, hl, tb, q⟩ := h
    have lt := lt_at hx
    refine ⟨_, (pss_cons (ps_set (i := 2) sc.nd rfl (.inl rfl) (pe_item_str (pv 0) (pv 1) (fun _ _ => rfl)))
(pss_cons (ps_if (pt_cmpR op_in_sign (pv 2) (pe_gstr rfl g1) rfl)
(pss_one (ps_ret (pe_call F1 hr (by rfl) m1 k1 b1 .nil pass0 (pa_cons (pv 0) (pa_cons (pv 1) pa_nil))))) pss_nil)
(pss_cons (ps_if (pt_cmpR op_in_sign (pv 2) (pe_gstr rfl g2) rfl)
(pss_one (ps_ret (pe_call F2 hr (by rfl) m2 k2 b2 .nil pass0 (pa_cons (pv 0) (pa_cons (pv 1) pa_nil))))) pss_nil)
(pss_cons (ps_if (pt_cmpR op_eq (pv 2) pe_str (nomark _))
(pss_one (ps_ret (pe_call F3 hr (by rfl) m3 k3 b3 .nil pass0 (pa_cons (pv 0) (pa_cons (pv 1) pa_nil))))) pss_nil)
(pss_cons (ps_if (pt_cmpR op_in_sign (pv 2) (pe_gstr rfl g3) rfl)
(pss_one (ps_ret (pe_tup (pa_cons (pe_tup (pa_cons pe_str (pa_cons (pv 2) pa_nil))) (pa_cons (pe_op op_add (pv 1) pe_int) pa_nil))))) pss_nil)
(pss_one (ps_ret (pe_tup (pa_cons pe_non (pa_cons (pv 1) pa_nil)))))))))), ?_⟩
    refine ⟨_, rfl, _, rfl, _, _, c, rfl, rfl, by omega, in63 hl lt, in_S lt, item_S hx, ?_⟩
    refine ⟨_, rfl, c, _, rfl, rfl, _, rfl, ite2 (fun h => ?_) (fun h => ?_)⟩
    · exact ⟨_, rfl, _, rfl, L, a, c, rfl, hx, of_decide_eq_true h, hl, tb, q⟩
    have n1 : c ∉ LET := fun z => h (decide_eq_true z)
    refine ⟨_, rfl, c, _, rfl, rfl, _, rfl, ite2 (fun h => ?_) (fun h => ?_)⟩
    · exact ⟨_, rfl, _, rfl, L, a, c, rfl, hx, of_decide_eq_true h, hl, tb, q⟩
    have n2 : c ∉ DIG := fun z => h (decide_eq_true z)
    refine ⟨_, rfl, rfl, _, rfl, ite2 (fun h => ?_) (fun h => ?_)⟩
    · have e : c = 34 := by
        have h := of_decide_eq_true h
        injection h with h
        have h2 : [c] = [34] := congrArg (fun z : Str => z.cps.toList) h
        exact (List.cons.inj h2).1
      exact ⟨_, rfl, _, rfl, L, a, c, rfl, hx, e, hl, tb, q⟩
    have n3 : c ≠ 34 := fun z => h (decide_eq_true (by rw [z]; rfl))
    have elex : lexC c (L.drop (a + 1)) = (if c ∈ SGN then some (.sign c, 1) else none) := by
      unfold lexC
      rw [if_neg n1, if_neg n2, if_neg n3]
    refine ⟨_, rfl, c, _, rfl, rfl, _, rfl, ite2 (fun h => ?_) (fun h => ?_)⟩
    · have hs : c ∈ SGN := of_decide_eq_true h
      rw [if_pos hs] at elex
      rw [elex] at q
      exact ⟨_, rfl, two_le, fun u nu => ⟨_, rfl, _, _, rfl, rfl, two_le, fun p np => q _ p (tok_some (t := .sign c) (k := 1) tb nu np)⟩⟩
    · have hs : c ∉ SGN := fun z => h (decide_eq_true z)
      rw [if_neg hs] at elex
      rw [elex] at q
      exact ⟨_, rfl, two_le, fun p np => q _ p (tok_none tb np)⟩

theorem lexC_le {c : Nat} {r : List Nat} {t : Tok} {k : Nat} (h : lexC c r = some (t, k)) : k ≤ r.length + 1 := by
  unfold lexC at h
  by_cases h1 : c ∈ LET
  · rw [if_pos h1] at h
    split at h
    · cases h
      exact run_le _ _
    · cases h
  rw [if_neg h1] at h
  by_cases h2 : c ∈ DIG
  · rw [if_pos h2] at h
    split at h
    · cases h
      exact run_le _ _
    · cases h
  rw [if_neg h2] at h
  by_cases h3 : c = 34
  · rw [if_pos h3] at h
    split at h
    · rename_i hk
      cases h
      omega
    · cases h
  rw [if_neg h3] at h
  split at h
  · cases h
    omega
  · cases h
/-! ### split -/
def TokL (H : Hp) : List V → List Tok → Prop := Paired fun v t => ∃ q, v = .ref q ∧ H q = some (.tup (tokV t))
theorem TokL.imp {H H' : Hp} {vs : List V} {ts : List Tok} (h : TokL H vs ts) (k : ∀ q t, H q = some (.tup (tokV t)) → H' q = some (.tup (tokV t))) : TokL H' vs ts :=
  Paired.mapP h fun v t ⟨q, e, h⟩ => ⟨q, e, k q t h⟩
theorem tup_ne_tab {P q : Addr} {H : Hp} {xs : List V} (t : GxR.TabG H P) (h : H q = some (.tup xs)) : q ≠ P := fun e => by
  obtain ⟨ps, h2, _⟩ := t
  rw [e, h2] at h
  cases h
theorem TokL.kp {P : Addr} {H H' : Hp} {vs : List V} {ts : List Tok} (h : TokL H vs ts) (t : GxR.TabG H P) (k : Kp P H H') : TokL H' vs ts :=
  h.imp fun q u e => k.2 q _ (tup_ne_tab t e) e
theorem Paired.snoc {α β : Type} {R : α → β → Prop} : ∀ {l : List α} {m : List β} {a : α} {b : β}, Paired R l m → R a b → Paired R (l ++ [a]) (m ++ [b])
  | _, _, _, _, .nil, r => .cons r .nil
  | _, _, _, _, .cons x t, r => .cons x (Paired.snoc t r)
def spSplit (PT : Addr) : Sp := fun vs H Q _ => ∃ (L : List Nat) (o : Option (List Tok)), vs = [.str (S L)] ∧ L.length ≤ 5000 ∧ GxR.TabG H PT ∧ Lex L o ∧
  ∀ H', Kp PT H H' → (o = none → Q .non H') ∧ ∀ ts D vs, o = some ts → H D = none → H' D = some (.lst vs) → TokL H' vs ts → Q (.ref D) H'
theorem scSpl : FnScope ["line", "tokens", "at", "token"] ["line"] (defScope sSplit) := ⟨rfl, rfl, rfl, by decide +kernel, rfl, by decide +kernel, by decide +kernel⟩
theorem ok_split {f f1 PT : Addr} {fd fd1 : FuncData} (F : Fun K "split" "split" sSplit f fd) (T : Txt K mg)
    (F1 : FnOk P w K mg base CX0 4 f1 fd1 ["line", "at"] (spTok PT fun _ => True)) (m1 : mg "token_at" = some (.ref f1)) (k1 : PySem.W.keepIn K (.ref f1) = true) (b1 : Binds K fd1 ["line", "at"] []) :
    FnOk P w K mg base CX0 5 f fd ["line"] (spSplit PT) := by
  have sc := scSpl
  refine F.ok sc (fun vs H Q E h => ?_) (fun cdv A outer s H vs Q E hr h => ?_)
  · obtain ⟨L, o, rfl, _⟩ := h
    rfl
  · obtain ⟨L, o, rfl, hl, tb, hx, q⟩ := h
    refine ⟨_, (pss_cons (ps_set (i := 1) sc.nd rfl (.inl rfl) (pe_lst pa_nil))
(pss_cons (ps_set (i := 2) sc.nd rfl (.inl rfl) pe_int)
(pss_cons (ps_while PassesOwn.never (pt_cmpR op_lt (pv 2) (pe_callB call_len_str (by rfl) T.len (by decide +kernel) (pa_cons (pv 0) pa_nil)) (nomark _))
(pss_cons (ps_if (pt_cmpR op_eq (pe_item_str (pv 0) (pv 2) (fun _ _ => rfl)) pe_str (nomark _))
(pss_cons (ps_aug (i := 2) sc.nd rfl (.inl rfl) pe_int ip_add)
(pss_one ps_continue)) pss_nil)
(pss_cons (ps_asg (pe_call F1 hr (by rfl) m1 k1 b1 .nil pass0 (pa_cons (pv 0) (pa_cons (pv 2) pa_nil))) (pg_tup rfl (pgs_cons (pg_name (i := 3) sc.nd rfl (.inl rfl)) (pgs_cons (pg_name (i := 2) sc.nd rfl (.inl rfl)) pgs_nil))))
(pss_cons (ps_if (pt_cmpR op_isN (pv 3) pe_non (nomark _))
(pss_one (ps_ret pe_non)) pss_nil)
(pss_one (ps_expr (pe_bm PySem.F.plainAttrs_list PySem.F.slot_list_append PySem.F.type_list_append mt_append (pv 1) (pa_cons (pv 3) pa_nil))))))))
(pss_one (ps_ret (pv 1)))))), ?_⟩
    refine ⟨Nat.zero_le _, fun D hD => ?_⟩
    have kD : Kp PT H (upd H D (.lst [])) := Same.kp (Same.lst (Same.refl H) hD) tb
    have nDP : D ≠ PT := TabG.ne tb hD
    refine ⟨fun m σ H' => ∃ (e : Nat) (ts : List Tok) (vs : List V) (y3 : Option V) (o' : Option (List Tok)), σ = [some (.str (S L)), some (.ref D), some (.int (e : Nat)), y3] ∧ Kp PT H H' ∧ H' D = some (.lst vs) ∧ TokL H' vs ts ∧
        e ≤ L.length ∧ m = L.length - e ∧ Lex (L.drop e) o' ∧ o = o'.map (ts ++ ·) ∧ ts.length ≤ e ∧ vs.length = ts.length, ⟨_, 0, [], [], none, o, rfl, kD, upd_same, .nil, Nat.zero_le _, rfl, hx, by cases o <;> rfl, Nat.le_refl _, rfl⟩, ?_⟩
    rintro m σ H' ⟨e, ts, vs, y3, o', rfl, kp, eD, tl, he, rfl, hx', eo, lts, lvs⟩
    refine ⟨_, rfl, _, rfl, _, rfl, by rw [S_len]; exact smallL hl, _, _, rfl, rfl, _, rfl, ite2 (fun h => ?_) (fun h => ?_)⟩
    · have lt : e < L.length := by
        have := of_decide_eq_true h
        rw [S_len] at this
        omega
      obtain ⟨c, hc⟩ : ∃ c, L[e]? = some c := ⟨_, List.getElem?_eq_getElem lt⟩
      rw [drop_at hc] at hx'
      refine ⟨fun σ' H2 => ∃ (e2 : Nat) (ts : List Tok) (vs : List V) (y3 : Option V) (o' : Option (List Tok)), σ' = [some (.str (S L)), some (.ref D), some (.int (e2 : Nat)), y3] ∧ Kp PT H H2 ∧ H2 D = some (.lst vs) ∧ TokL H2 vs ts ∧
        e < e2 ∧ e2 ≤ L.length ∧ Lex (L.drop e2) o' ∧ o = o'.map (ts ++ ·) ∧ ts.length ≤ e2 ∧ vs.length = ts.length, fun σ' H2 hN => ?_, ?_⟩
      · obtain ⟨e2, ts, vs, y3, o', h1, h2, h3, h4, h5, h6, h7, h8, h9, h10⟩ := hN
        exact ⟨L.length - e2, by omega, e2, ts, vs, y3, o', h1, h2, h3, h4, h6, rfl, h7, h8, h9, h10⟩
      refine ⟨_, rfl, _, rfl, _, _, c, rfl, rfl, by omega, in63 hl lt, in_S lt, item_S hc, rfl, _, rfl, ite2 (fun h => ?_) (fun h => ?_)⟩
      · have ec : c = 32 := by
          have h := of_decide_eq_true h
          injection h with h
          have h2 : [c] = [32] := congrArg (fun z : Str => z.cps.toList) h
          exact (List.cons.inj h2).1
        subst ec
        have hr' : Lex (L.drop (e + 1)) o' := by
          cases hx' with
          | sp h => exact h
          | bad n _ => exact absurd rfl n
          | tok n _ _ => exact absurd rfl n
        exact ⟨_, rfl, _, _, rfl, rfl, e + 1, ts, vs, y3, o', rfl, kp, eD, tl, Nat.lt_succ_self _, lt, hr', eo, by omega, lvs⟩
      · have nc : c ≠ 32 := fun z => h (decide_eq_true (by rw [z]; rfl))
        refine ⟨_, rfl, _, rfl, L, e, c, rfl, hc, trivial, hl, kp.1, fun H2 p r => ?_⟩
        obtain ⟨k2, np, r1, r2⟩ := r
        cases hlx : lexC c (L.drop (e + 1)) with
        | none =>
          obtain ⟨e9, h9⟩ := r1 hlx
          have en : o = none := by
            rw [eo]
            cases hx' with
            | sp h => exact absurd rfl nc
            | bad _ _ => rfl
            | tok _ h9 _ =>
              rw [hlx] at h9
              cases h9
          refine ⟨p, _, rfl, .inl (.inl h9), rfl, _, _, rfl, _, _, rfl, rfl, ?_⟩
          refine ⟨_, rfl, rfl, _, rfl, iteT ?_⟩
          exact (q H2 (kp.trans k2)).1 en
        | some tk =>
          obtain ⟨t, k⟩ := tk
          obtain ⟨u, nu, h9, h10⟩ := r2 t k hlx
          obtain ⟨o2, hx2, eo2⟩ : ∃ o2, Lex ((c :: L.drop (e + 1)).drop k) o2 ∧ o' = o2.map (t :: ·) := by
            cases hx' with
            | sp h => exact absurd rfl nc
            | bad _ h11 =>
              rw [hlx] at h11
              cases h11
            | tok _ h11 h12 =>
              rw [hlx] at h11
              cases h11
              exact ⟨_, h12, rfl⟩
          have kpos := lexC_pos hlx
          refine ⟨p, _, rfl, .inl (.inl h9), rfl, _, _, rfl, _, _, rfl, rfl, ?_⟩
          refine ⟨_, rfl, rfl, _, rfl, iteF ?_⟩
          have eD2 : H2 D = some (.lst vs) := k2.2 D _ nDP eD
          refine ⟨_, rfl, .inl ⟨rfl, _, SqL.of eD2⟩, _, rfl, D, _, _, rfl, rfl, eD2, ?_, ?_⟩
          · rw [lvs]
            exact Nat.lt_of_le_of_lt (Nat.le_trans (Nat.le_trans lts he) hl) (by decide)
          · have kle := lexC_le hlx
            have rl : (L.drop (e + 1)).length = L.length - (e + 1) := List.length_drop
            have ed : (c :: L.drop (e + 1)).drop k = L.drop (e + k) := by
              rw [← drop_at hc, List.drop_drop]
            rw [ed] at hx2
            refine ⟨e + k, ts ++ [t], vs ++ [.ref u], _, o2, rfl, ⟨?_, fun b ob n hb => ?_⟩, upd_same, ?_, by omega, by omega, hx2, ?_, ?_, ?_⟩
            · obtain ⟨ps, h1, h2⟩ := k2.1
              exact ⟨ps, by rw [upd_ne nDP.symm]; exact h1, h2⟩
            · rw [upd_ne (ne_of_none hb hD)]
              exact (kp.trans k2).2 b ob n hb
            · refine Paired.snoc ((tl.kp kp.1 k2).imp fun q t hq => ?_) ⟨u, rfl, ?_⟩
              · rw [upd_ne (ne_of hq eD2 (fun z => by cases z))]
                exact hq
              · rw [upd_ne (ne_of h10 eD2 (fun z => by cases z))]
                exact h10
            · rw [eo, eo2]
              cases o2 with
              | none => rfl
              | some x =>
                show some (ts ++ (t :: x)) = some ((ts ++ [t]) ++ x)
                rw [List.append_assoc]
                rfl
            · rw [List.length_append, List.length_singleton]
              omega
            · rw [List.length_append, List.length_append, lvs]
              rfl
    · have ge : e = L.length := by
        have : ¬ ((e : Int) < (S L).length) := fun z => h (decide_eq_true z)
        rw [S_len] at this
        omega
      rw [ge, List.drop_length] at hx'
      have eo' : o = some ts := by
        cases hx'
        rw [eo]
        show some (ts ++ []) = some ts
        rw [List.append_nil]
      exact ⟨_, rfl, (q H' kp).2 ts D vs eo' hD eD tl⟩
end
end K1

set_option maxRecDepth 100000
set_option maxHeartbeats 4000000
namespace K1
open PySem PySem.Spec PyProof.Rows L2 GD
/-! ### tokens as data -/
def tokD : Tok → PyData
  | .word l => .tuple [.str "word", .str (S l)]
  | .num n => .tuple [.str "number", .int (n : Nat)]
  | .str l => .tuple [.str "string", .str (S l)]
  | .sign c => .tuple [.str "sign", .str (S [c])]
theorem tokD_dp {K : PySem.W.Frag} {H : Hp} {q : Addr} {t : Tok} (h : H q = some (.tup (tokV t))) : Dp K H (.ref q) (tokD t) := by
  cases t with
  | word l => exact .tup (SqT.of h) (.cons (.str _) (.cons (.str _) .nil))
  | num n => exact .tup (SqT.of h) (.cons (.str _) (.cons (.int _) .nil))
  | str l => exact .tup (SqT.of h) (.cons (.str _) (.cons (.str _) .nil))
  | sign c => exact .tup (SqT.of h) (.cons (.str _) (.cons (.str _) .nil))
theorem toksD_dp {K : PySem.W.Frag} {H : Hp} {D : Addr} {vs : List V} {ts : List Tok} (h : H D = some (.lst vs)) (t : TokL H vs ts) : Dp K H (.ref D) (.list (ts.map tokD)) := by
  refine .lst (SqL.of h) ?_
  induction t with
  | nil => exact .nil
  | @cons v u vs ts r t ih =>
    obtain ⟨q, rfl, hq⟩ := r
    refine .cons (tokD_dp hq) ?_
    have : ∀ {vs ts}, TokL H vs ts → DpAll K H vs (ts.map tokD) := fun {vs ts} t => by
      induction t with
      | nil => exact .nil
      | @cons v u vs ts r t ih =>
        obtain ⟨q, rfl, hq⟩ := r
        exact .cons (tokD_dp hq) ih
    exact this t
end K1

set_option maxRecDepth 100000
set_option maxHeartbeats 4000000
namespace K1
open PySem PySem.Spec PyProof.Rows L2 GD
/-! ### the box -/
def Bx (b : Addr) (H H' : Hp) : Prop := ∀ c o, c ≠ b → H c = some o → H' c = some o
theorem Bx.refl (b : Addr) (H : Hp) : Bx b H H := fun _ _ _ h => h
theorem Bx.trans {b : Addr} {H H1 H2 : Hp} (x : Bx b H H1) (y : Bx b H1 H2) : Bx b H H2 := fun c o n h => y c o n (x c o n h)
theorem Bx.same {b : Addr} {H H' : Hp} (s : Same H H') : Bx b H H' := fun c o _ h => s c o h
theorem Box.draw {H : Hp} {b d : Addr} {ds : List Int} {n : Nat} (x : Box H b d ds n) : Box (upd H b (.lst [.ref d, .int ((n + 1 : Nat) : Int)])) b d ds (n + 1) :=
  ⟨upd_same, by rw [upd_ne x.ne]; exact x.2.1, x.2.2⟩
theorem Bx.draw {H : Hp} {b : Addr} {o : HO} : Bx b H (upd H b o) := fun c u n h => by rw [upd_ne n]; exact h
theorem Box.new {H : Hp} {b d l : Addr} {ds : List Int} {n : Nat} {o : HO} (x : Box H b d ds n) (h : H l = none) : Box (upd H l o) b d ds n :=
  ⟨by rw [upd_ne (ne_of_none x.1 h)]; exact x.1, by rw [upd_ne (ne_of_none x.2.1 h)]; exact x.2.1, x.2.2⟩
theorem Bx.new {H : Hp} {b l : Addr} {o : HO} (h : H l = none) : Bx b H (upd H l o) := Bx.same (Same.lst (Same.refl H) h)
theorem Bx.free {b c d : Addr} {H H' : Hp} {ds : List Int} {n : Nat} (x : Bx b H H') (y : Box H b d ds n) (y' : Box H' b d ds n ∨ H' b ≠ none) (h : H' c = none) : H c = none := by
  cases e : H c with
  | none => rfl
  | some o =>
    by_cases z : c = b
    · subst z
      rcases y' with y' | y'
      · rw [y'.1] at h
        cases h
      · exact absurd h y'
    · rw [x c o z e] at h
      cases h

/-- draws and new objects -/
structure Bs (b d : Addr) (ds : List Int) (H H' : Hp) (n : Nat) : Prop where
  bx : Bx b H H'
  box : Box H' b d ds n
  free : ∀ c, H' c = none → H c = none
theorem Bs.refl {b d : Addr} {ds : List Int} {H : Hp} {n : Nat} (h : Box H b d ds n) : Bs b d ds H H n := ⟨Bx.refl _ _, h, fun _ z => z⟩
theorem Bs.draw {b d : Addr} {ds : List Int} {H H' : Hp} {n : Nat} (h : Bs b d ds H H' n) : Bs b d ds H (upd H' b (.lst [.ref d, .int ((n + 1 : Nat) : Int)])) (n + 1) :=
  ⟨h.bx.trans Bx.draw, h.box.draw, fun c z => h.free c (by
    by_cases e : c = b
    · rw [e, upd_same] at z
      cases z
    · rw [upd_ne e] at z
      exact z)⟩
theorem Bs.new {b d l : Addr} {ds : List Int} {H H' : Hp} {n : Nat} {o : HO} (h : Bs b d ds H H' n) (nl : H' l = none) : Bs b d ds H (upd H' l o) n :=
  ⟨h.bx.trans (Bx.new nl), h.box.new nl, fun c z => h.free c (by
    by_cases e : c = l
    · rw [e]
      exact nl
    · rw [upd_ne e] at z
      exact z)⟩
theorem Bs.trans {b d : Addr} {ds : List Int} {H H1 H2 : Hp} {n m : Nat} (x : Bs b d ds H H1 n) (y : Bs b d ds H1 H2 m) : Bs b d ds H H2 m :=
  ⟨x.bx.trans y.bx, y.box, fun c z => x.free c (y.free c z)⟩
theorem Bs.nb {b d l : Addr} {ds : List Int} {H H' : Hp} {n : Nat} (h : Bs b d ds H H' n) (nl : H' l = none) : l ≠ b := fun z => by rw [z, h.box.1] at nl; cases nl
theorem idx {m : Nat} {r : Int} (h0 : 0 ≤ r) (h1 : r < (m : Int)) : ∃ j : Nat, r = (j : Int) ∧ j < m := ⟨r.toNat, by omega, by omega⟩
theorem le9 {n : Nat} (h : n ≤ 100) : n ≤ sizeLine := Nat.le_trans h (by decide)
end K1

set_option maxRecDepth 100000
set_option maxHeartbeats 8000000
/-! an own exception over ValueError, perhaps by way of another own class, whose __init__ begins with super().__init__(..) -/
namespace GS
open PySem PySem.Spec PyProof.Rows L2 NdefX
open PySem.W (kxs_mw)
section
variable {prog : Program} {w : World} {A : Around} {E : Value → Shared → Prop} {h : Heap} {g : Array GenState} {d : Drawn} {t : Nat} {os : OsState}
variable {nm q : Str} {C N : Addr} {bs bm : List Value} {hdct : Bool} {sn : List Str} {sub : List Value} {ab : Bool} {col : Option Bool} {dd : Option Addr} {k0 k1 k2 k3 k5 : Option Value}
/-- ValueError.__init__, bound to a new exception, called -/
theorem call_mw {u e t0 : Addr} {rest : List Value} {Q : Value → Shared → Prop}
    (hC : h.get? C = some (excClassObj nm q C N bs bm hdct sn sub ab col dd k0 k1 k2 k3 k5 "ValueError.__new__")) (he : h.get? e = some (PySem.W.excObj C t0 none .none)) (hu : h.get? u = some (kxs_mw "ValueError.__init__" e)) (hrest : rest.length ≤ sizeLine)
    (hq : ∀ h', (∀ b o, b ≠ e → h.get? b = some o → h'.get? b = some o) → h'.get? e = some (PySem.W.excObj C h.objs.size none .none) → Q .none ⟨h', g, d, t, os⟩) :
    wpAny (model prog w) A (call (.ref u) rest) Q E ⟨h, g, d, t, os⟩ := by
  have FB := F.excBase_ValueError
  refine wpAny_call (codeAny_of_tree (show wpAny _ A.in1 (callAny (.ref u) ⟨rest, []⟩) _ _ _ from ?_))
  unfold callAny
  refine wpAny_bind (wpAny_load hu ?_)
  dsimp only [kxs_mw]
  refine PySem.W.KFB.if_so (by decide) (wpAny_bind (PySem.W.check_bound_init FB.toExcCallFacts hC he rfl (wpAny_bind (wpAny_pure (wpAny_pure ⟨plainId_quiet FB.init.plain _, codeAny_builtin FB.initEntry ?_⟩)))))
  exact PySem.W.exc_init_tree (cls := .ref C) (t0 := t0) (dv := none) (c2 := .none) (c3 := .none) (b4 := .bool false) he hrest fun h' k e' _ => hq h' k e'
end

section
variable {CX : CXT} {P : Program} {w : World} {K : PySem.W.Frag} {mg : Str → Option Value} {base : Heap} {k : Nat} {f cc cda D : Addr} {sp : L2.Sp} {st : Stmt} {x qual : Str} {ps : List Str} {N : List Str}
variable {oc kV dV doc pm ct ccl cl : Value} {od an cdd cld : Option Addr} {osl ccs csl : Array (Option Value)} {vs0 : Array Value} {file : Str} {tf : PySem.Tok} {cdD : ClassData}
variable {e : Expr} {es : List Expr} {rest : List Stmt} {p0 p1 p2 p3 p4 : Pos}
abbrev nf (x qual : Str) (st : Stmt) (cc cda : Addr) : NF := ⟨x, qual, defArgs st, defBody st, defScope st, [("__class__", cc)], cda⟩
/-- what the written part says of such an __init__ -/
structure SupK (P : Program) (K : PySem.W.Frag) (mg : Str → Option Value) (x qual : Str) (st : Stmt) (f cc cda D : Addr) : Prop where
  fn : ∃ oc od kV doc pm an ct osl, K.lookup f = some ⟨oc, od, .func (PySem.W.ksFn x qual (defArgs st) (defBody st) (defScope st) .none kV doc pm an (.ref cda) ct cc), osl⟩
  code : PySem.W.codeIn K (.ref cda) qual = true
  file : ∃ ccl cdd vs0 ccs file tf, K.lookup cda = some ⟨ccl, cdd, .fields vs0, ccs⟩ ∧ vs0[2]? = some (.str file tf) ∧ ((P.main.file : Str) == file) = true
  cell : ∃ cl cld csl, K.lookup cc = some ⟨cl, cld, .cell (some (.ref D)), csl⟩
  sub : PySem.W.mroIn K D (.ref D) = some true
  sup : mg "super" = none
  opq : PySem.W.nsIn K cStatics "thirdparty.any" = some none
  ini : PySem.W.ks_superIn K D D "__init__" = some (some (.builtin "ValueError.__init__"))
  isVE : PySem.W.subIn K (.ref D) (.type "ValueError") = some true
  top : (P.main.scope.names.lookup ("super" : Str)).isSome = false
  cls : OexC K D
theorem ok_super {ar : Arg} {pl : Env → Sem Bool} (T : SupK P K mg x qual st f cc cda D) (S : NScope N ps ["__class__"] (defScope st))
    (hbody : defBody st = .Expr (.Call (.Attribute (.Call (.Name "super" p0) [] [] p1) "__init__" p2) (e :: es) [] p3) p4 :: rest)
    (hks : (defScope st).names.lookup ("super" : Str) = some .globalImplicit) (hpar : ((defArgs st).posonlyargs ++ (defArgs st).args).head? = some ar) (hps : ps.head? = some ar.arg)
    (he : ∀ env, starEach (e :: es) env = (false, eval e env) :: starEach es env) (hpl : ∀ env pos, (backTo pos (starEach es env)).any (·.1) = false)
    (hc : ∀ env, eval (.Call (.Attribute (.Call (.Name "super" p0) [] [] p1) "__init__" p2) (e :: es) [] p3) env = (do
      let ov ← attributeBase (.Call (.Name "super" p0) [] [] p1) "__init__" env (eval (.Call (.Name "super" p0) [] [] p1) env)
      standAt p2.atName
      let (f, first) ← holding [ov] (getMethod ov "__init__" (pl env))
      callWith p3 f first (backTo p3 (starEach (e :: es) env)) []))
    (hsw : ∀ env, swapsWith (.Call (.Attribute (.Call (.Name "super" p0) [] [] p1) "__init__" p2) (e :: es) [] p3) none p4.line env = pure false)
    (hbi : ∀ kV doc pm an ct, Binds K (PySem.W.ksFn x qual (defArgs st) (defBody st) (defScope st) .none kV doc pm an (.ref cda) ct cc) ps [])
    (len : ∀ vs H Q E, sp vs H Q E → vs.length = ps.length)
    (hb : ∀ (A : Around) (outer : List Env) (s : Shared) (H : Hp) (vs : List V) (Q : VK) (E : XK), Room k (A.deeper (envF (nf x qual st cc cda) f s.heap.objs.size)) → sp vs H Q E →
      ∃ a ws ta t, vs = .ref a :: ws ∧ H a = some (exo a D none) ∧ PA (ncx CX P w K mg base N (nf x qual st cc cda) f A outer s H E) (e :: es) ta ∧ PSs (ncx CX P w K mg base N (nf x qual st cc cda) f A outer s H E) rest t ∧
        ta (startF N vs [some (.ref D)]) H fun us H1 => us.length ≤ 1000 ∧ H1 a = some (exo a D none) ∧ t { nx := fun _ H' => Q .non H', rt := Q } (startF N vs [some (.ref D)]) H1) :
    ∃ fd, Binds K fd ps [] ∧ FnOk P w K mg base CX (k + 1) f fd ps sp := by
  obtain ⟨oc, od, kV, doc, pm, an, ct, osl, lk⟩ := T.fn
  obtain ⟨ccl, cdd, vs0, ccs, file, tf, lcd, hvs, hfile⟩ := T.file
  obtain ⟨cl, cld, csl, lcell⟩ := T.cell
  obtain ⟨nm, q, N', bs, bm, sn, sub, ab, col, dd, k0, k1, k2, k3, k5, hC, hbm⟩ := T.cls.cls
  refine ⟨_, hbi kV doc pm an ct, len, fun A outer s H args us vs Q E hr z0 hbd r hs => ?_⟩
  have hl := len _ _ _ _ hs
  have kx : K.In s.heap := z0.mod.kin.keeps fun b o e => (z0.bs b o e).1
  have nl : s.heap.NoLimit := z0.mod.nolimit.keeps fun b o e => (z0.bs b o e).1
  have hloc : ∀ y ∈ ps.zip us, (defScope st).names.lookup y.1 = some .local := by
    rintro ⟨n, v⟩ hy
    exact S.par n (List.of_mem_zip hy).1
  have hkcl : (defScope st).names.lookup ("__class__" : Str) = some .free := S.frk "__class__" List.mem_cons_self
  have har : ar.arg ∈ ps := by
    cases ps with
    | nil => cases hps
    | cons p r => rw [Option.some.inj hps]; exact List.mem_cons_self
  refine ks_codeAny_call_defAt (fd := PySem.W.ksFn x qual (defArgs st) (defBody st) (defScope st) .none kV doc pm an (.ref cda) ct cc) (body := defBody st) hr.depth (kx _ _ lk) rfl nl (PySem.W.codeRec_of kx T.code) rfl hbd S.nocell hloc (fun h₀ hns hk => ?_) S.co S.gen S.kind
  obtain ⟨a, ws, ta, t, evs, ea, hta, ht, hrd⟩ := hb A outer s H vs Q E (hr.deeper _) hs
  have CA : CellsAt [("__class__", cc)] ["__class__"] [some (V.ref D)] s.heap H := by
    have ec : ∀ y c, ([("__class__", cc)] : List (Str × Addr)).lookup y = some c → y = "__class__" ∧ c = cc := fun y c z => by
      have m := PySem.mem_of_lookup z
      have m := List.mem_singleton.mp m
      injection m with m1 m2
      exact ⟨m1, m2⟩
    have hcell : s.heap.IsCell cc (some (.ref D)) := ⟨_, kx _ _ lcell, rfl⟩
    refine ⟨rfl, fun y c z => ?_, fun x y c z1 z2 => (ec _ _ z1).1.trans (ec _ _ z2).1.symm, fun i y hy => ?_⟩
    · obtain ⟨_, rfl⟩ := ec y c z
      exact ⟨(z0.bs _ _ (z0.mod.kin _ _ lcell)).2, _, hcell⟩
    · match i with
      | 0 =>
        cases hy
        refine ⟨cc, rfl, fun v hv => ?_⟩
        cases hv
        exact ⟨_, rfl, hcell⟩
      | i + 1 => simp at hy
  have J := inv_startN (CX := CX) (E := E) (F := nf x qual st cc cda) (f := f) (tk := s.toks + (ps.zip us).length) S hr.hd z0 hl r CA hns hk
  have kx1 : K.In h₀ := J.kIn
  obtain ⟨hp, g, dr, tk, os⟩ := s
  have hcl : PySem.W.clsIn K D = some { name := nm, bases := bs, mro := .ref D :: bm, ns := N', qualname := q, hasDict := true, slotNames := sn, subclasses := sub, abstract := ab, collection := col, hasDel := false } := by
    unfold PySem.W.clsIn
    rw [hC]
  have ini := T.ini
  unfold PySem.W.ks_superIn at ini
  rw [hcl] at ini
  have haD : a ≠ D := fun z => by
    rw [z, (z0.bs _ _ (z0.mod.kin _ _ hC)).2] at ea
    cases ea
  have e1 : execs (defBody st) (envF (nf x qual st cc cda) f hp.objs.size) = execs (.Expr (.Call (.Attribute (.Call (.Name "super" p0) [] [] p1) "__init__" p2) (e :: es) [] p3) p4 :: rest) (envF (nf x qual st cc cda) f hp.objs.size) := by rw [hbody]
  show PySem.wpAt (model P w) (A.deeper (envF (nf x qual st cc cda) f hp.objs.size)) (.func (defBody st) (envF (nf x qual st cc cda) f hp.objs.size)) (execs (defBody st) (envF (nf x qual st cc cda) f hp.objs.size)) _ _ _
  rw [e1]
  have hin : interactive (envF (nf x qual st cc cda) f hp.objs.size) = false := by
    unfold interactive
    have e9 : (envF (nf x qual st cc cda) f hp.objs.size).scope.kind = .function := S.kind
    rw [e9]
    rfl
  refine ks_wpAt_execs_cons (ks_wpAt_Expr_any (ks_wpAt_MethodCall ?_ (hc _)) hin (hsw _))
  refine ks_wpAt_super_base hks hkcl (by decide) rfl (kx1 _ _ lk) rfl hpar rfl (kx1 _ _ lcd) rfl hvs hfile T.top ?_
  obtain ⟨mb, hb1, hb2⟩ := J.mod.blt
  refine PySem.W.ks_loadName_global S.kind hks (Calls.loadGlobal_builtin (J.mod.glob.keeps J.bk) T.sup (hb1.keeps J.bk) ((hb2 "super" (by decide)).trans (by kernel_rfl : bootBuiltins "super" = some (.type "super"))) ⟨rfl, ?_⟩)
  refine wpAny_loadName_free S.kind hkcl rfl ⟨_, kx1 _ _ lcell, rfl⟩ ?_
  have hself : (ps.zip us).reverse.lookup ar.arg = some (.ref a) := by
    subst evs
    cases r with
    | @cons _ u0 _ ur ra rw' =>
      obtain rfl : u0 = Value.ref a := ra
      have ndP : ps.Nodup := by
        have q := S.nd.sublist (List.take_sublist (ps.length + 1) N)
        have e9 : N.take (ps.length + 1) = ps ++ [("__class__" : Str)] := S.pre
        rw [e9] at q
        exact (List.nodup_append.mp q).1
      refine zip_look (i := 0) ndP ?_ rfl
      rw [← List.head?_eq_getElem?]
      exact hps
  refine wpAny_loadName_local S.kind (S.par ar.arg har) hns hself ?_
  refine ks_wpAny_isType_cls (kx1 _ _ hC) rfl ⟨rfl, ?_⟩
  obtain ⟨t1, ho⟩ := exo_at J.hok ea
  refine ks_wpAny_call_super (kx1 _ _ hC) rfl ho rfl (fun c z => by cases z) (PySem.W.looks_mroIn kx1 T.sub) (fun h1 hso k1 => ?_)
  have J1 := J.kept (t' := tk + (ps.zip us).length) k1
  have kx2 : K.In h1 := J1.kIn
  have I1 : PySem.W.InstAt h1 a _ D none := ⟨k1 _ _ ho, rfl, rfl, trivial⟩
  refine PySem.W.kxs_getMethod PySem.W.kxs_ValueError hso (PySem.W.looks_opaque kx2 T.opq) ((PySem.W.looks_clsIn kx2 hcl).andThen .now) rfl kx2 ini (I1.type.andThen (PySem.W.looks_subIn kx2 T.isVE)) haD (by decide) ?_
  have J2 := (J1.kept (t' := tk + (ps.zip us).length + 1) (fun b o z => Heap.get?_push_of_some (kxs_mw "ValueError.__init__" a) z)).pins_of (pins' := [(h1.objs.size, kxs_mw "ValueError.__init__" a)]) fun p hp' => by
    rw [List.mem_singleton.mp hp']
    exact ⟨Heap.get?_push_size _ rfl, J1.hok.fresh (Nat.le_refl _), Nat.ne_of_gt J1.lt, J1.nofs (Nat.le_refl _), fun v z => by cases z⟩
  refine PySem.W.kxs_callWith (i := "ValueError.__init__") (x := a) (by rw [he]; show (false || _) = false; rw [Bool.false_or]; exact hpl _ _) ?_
  rw [he]
  refine Calls.evalArgs_plain ?_
  have run := hta.run p3 _ _ _ H _ J2 hrd
  rw [he] at run
  refine thn run fun us3 s3 hAP => ?_
  obtain ⟨vs3, H3, I3, r3, hlen, ea3, q3⟩ := hAP
  refine ⟨(I3.pin _ List.mem_cons_self).1, ?_⟩
  obtain ⟨t3, ho3⟩ := exo_at I3.hok ea3
  have hu3 := (I3.pin _ List.mem_cons_self).1
  obtain ⟨hp3, g3, dr3, tk3, os3⟩ := s3
  refine call_mw (I3.kIn _ _ hC) ho3 hu3 ?_ fun h4 k4 he4 => ?_
  · show us3.length ≤ _
    rw [← Paired.length r3, sizeLine_eq]
    omega
  have J4 := I3.write (t' := tk3) (x := a) (e := a) (o := exo a D none) (by rw [ea3]; exact True.intro) (.inl rfl) k4 ⟨_, he4⟩ (exo_ok he4)
  have eu : upd H3 a (exo a D none) = H3 := by
    funext b
    by_cases hb' : b = a
    · rw [hb', upd_same, ea3]
    · rw [upd_ne hb']
  rw [eu] at J4
  have J5 := J4.pins_of (pins' := []) fun p hp' => by cases hp'
  refine wpAt_of_wpAny (wpAny_mono (ht.run [] _ _ H3 _ J5 q3) (fun fl s' hs' => ?_) fun e s' hs' => hs')
  cases fl with
  | ret u =>
    obtain ⟨v, σ2, H2, I2, rv, q⟩ := hs'
    exact ⟨v, H2, I2.os, I2.bare, I2.base, I2.hok, rv, q⟩
  | next =>
    obtain ⟨σ2, H2, I2, q⟩ := hs'
    exact ⟨V.non, H2, I2.os, I2.bare, I2.base, I2.hok, rfl, q⟩
  | brk =>
    obtain ⟨_, _, _, q⟩ := hs'
    exact q.elim
  | cont =>
    obtain ⟨_, _, _, q⟩ := hs'
    exact q.elim
end
end GS

set_option maxRecDepth 100000
set_option maxHeartbeats 8000000
/-! try with several clauses, each with a name of its own or none -/
namespace GS
open PySem PySem.Spec PyProof.Rows L2
abbrev Suite := Addr → Value → Option Addr → TS
/-- the ends of a suite whose name, in slot i, is gone behind it -/
def gone (D : Ends) (i : Nat) : Ends := { nx := fun σ H => D.nx (σ.set i none) H, rt := D.rt, bk := fun σ H => D.bk (σ.set i none) H, ct := fun σ H => D.ct (σ.set i none) H }
/-- what the clauses wish, one after the other; none left: W -/
def wA (K : PySem.W.Frag) (W : WX) (D : Ends) : List (Value × Option Nat × Suite) → WX
  | [] => W
  | (c, o, ts) :: r => fun cls d σ H => ∃ b, PySem.W.exmOne K cls c = some b ∧
      (b = true → ∀ a, H a = none → match o with
        | none => ts a cls d D σ H
        | some i => ts a cls d (gone D i) (σ.set i (some (.ref a))) H) ∧ (b = false → wA K W D r cls d σ H)
inductive Clauses (X : Cx) : List ExceptHandler → List (Value × Option Nat × Suite) → Prop
  | nil : Clauses X [] []
  | bare {x : Str} {c : Value} {ts : Suite} {b₀ : Stmt} {su : List Stmt} {q1 q2 : Pos} {hs : List ExceptHandler} {l : List (Value × Option Nat × Suite)} (hc : Names X x c)
      (hsu : ∀ (a : Addr) (oe : Obj) (cls : Value) (d : Option Addr) (pn : List (Addr × Obj)), Zc cls d oe → (∃ vs, oe.data = .fields vs) → PSs (X.suite a ((a, oe) :: pn)) (b₀ :: su) (ts a cls d)) (r : Clauses X hs l) :
      Clauses X (.ExceptHandler (some (.Name x q1)) none (b₀ :: su) q2 :: hs) ((c, none, ts) :: l)
  | named {x n : Str} {i : Nat} {c : Value} {ts : Suite} {b₀ : Stmt} {su : List Stmt} {q1 q2 : Pos} {hs : List ExceptHandler} {l : List (Value × Option Nat × Suite)} (hc : Names X x c) (hi : X.N[i]? = some n) (hn : X.env.kindOf n = some .local)
      (hsu : ∀ (a : Addr) (oe : Obj) (cls : Value) (d : Option Addr) (pn : List (Addr × Obj)), Zc cls d oe → (∃ vs, oe.data = .fields vs) → PSs (X.suite a ((a, oe) :: pn)) (b₀ :: su) (ts a cls d)) (r : Clauses X hs l) :
      Clauses X (.ExceptHandler (some (.Name x q1)) (some n) (b₀ :: su) q2 :: hs) ((c, some i, ts) :: l)
section
variable {X : Cx} {body : List Stmt} {h₀ : ExceptHandler} {hds : List ExceptHandler} {l : List (Value × Option Nat × Suite)} {pos : Pos} {tb : WX → TS} {Wout : WX}
/-- the clause's class, read where the exception is handled -/
theorem cls_read {x : Str} {c : Value} {np : Pos} {a : Addr} {pn : List (Addr × Obj)} {σ : L2.St} {H : Hp} {s : Shared} (hc : Names X x c) (S : Inv (X.suite a pn) [] σ H s) {Q : Value → Shared → Prop} {E : Value → Shared → Prop} (q : Q c s) :
    wpAny (model X.prog X.w) (X.A.mark (some (.ref a))) (eval (.Name x np) X.env) Q E s := by
  obtain ⟨hg, hdb, h | ⟨hm, hv, hn⟩⟩ := hc
  · exact ld_glob (X := X.suite a pn) S hg h q hdb
  · exact ld_blt (X := X.suite a pn) S hg hm hv q hn hdb
theorem ps_tryA (hs : X.stack = X.env :: X.outer) (hf : X.env.frame = some X.env.locals) (hN : X.N.Nodup) (tk : Takes X Wout)
    (hb : ∀ (W : WX) (pn : List (Addr × Obj)) (xe : Value → Shared → Prop), Takes (X.tr pn xe) W → PassesOwn (model X.prog X.w) X.A X.env xe → PSs (X.tr pn xe) body (tb W))
    (hh : Clauses X (h₀ :: hds) l) : PS X (.Try body (h₀ :: hds) [] [] pos) (fun D σ H => tb (wA X.K Wout D l) D σ H) := by
  refine ⟨fun pins s σ H D I h => wpAny_Try_except ?_⟩
  have ok := I.ok
  have hfr : X.A.frames = some (X.env :: X.outer) := by rw [ok.frames, hs]
  let xe : Value → Shared → Prop := fun e s₁ => wpAny (model X.prog X.w) X.A (noteFrame e X.env) (fun _ s₂ => wpAny (model X.prog X.w) X.A (setFlight e none) (fun _ s₃ => wpAny (model X.prog X.w) X.A (handleBy e X.env (h₀ :: hds)) (SP X pins D) X.xe s₃) X.xe s₂) X.xe s₁
  refine wpAny_mono ((hb (wA X.K Wout D l) (X.pn ++ pins) xe (fun u s' xx => ?_) PassesOwn.looking).run [] s σ H D (I.toTry _) h) (fun f s1 hsp => ?_) (fun e s1 he => he)
  rotate_left
  · cases f with
    | ret u =>
      obtain ⟨v, σ', H', J', r, q⟩ := hsp
      exact ⟨v, σ', H', J'.ofTry ok, r, q⟩
    | next =>
      obtain ⟨σ', H', J', q⟩ := hsp
      exact wpAny_execs_nil ⟨σ', H', J'.ofTry ok, q⟩
    | brk =>
      obtain ⟨σ', H', J', q⟩ := hsp
      exact ⟨σ', H', J'.ofTry ok, q⟩
    | cont =>
      obtain ⟨σ', H', J', q⟩ := hsp
      exact ⟨σ', H', J'.ofTry ok, q⟩
  obtain ⟨a, B, sI, pins', σ', H', cls, d, rfl, J', nb, up, sky, na, os, ag, w⟩ := xx
  have J : Inv X pins σ' H' sI := J'.ofTry ok
  have sky' : Sky B (X.env :: X.outer) a (Zc cls d) X.env.locals s'.heap := hs ▸ sky
  show wpAny _ X.A (noteFrame (.ref a) X.env) _ _ _
  refine Sky.land Zc.steady hfr hf sky' fun h3 fl3 up3 => ?_
  have J3 : Inv X pins σ' H' { s' with heap := h3 } := J.landed nb fl3.1 (up.trans up3) os ag
  obtain ⟨oe3, vs3, he3, hz3, hd3⟩ := fl3.there
  have nfr : a ∉ frs (X.env :: X.outer) := fun hm => by
    obtain ⟨_, o', e', hnf⟩ := fl3.2.2.1.mem hm
    rw [he3] at e'
    cases e'
    exact hnf _ hd3
  have nL : a ≠ X.env.locals := fun z => nfr (List.mem_filterMap.mpr ⟨X.env, List.mem_cons_self, by rw [hf, z]⟩)
  have nF : a ∉ X.fs := fun hm => by
    obtain ⟨e, he, q⟩ := List.mem_filterMap.mp hm
    exact nfr (List.mem_filterMap.mpr ⟨e, List.mem_cons_of_mem _ he, q⟩)
  have S3 := J3.suite he3 hd3 na nL nF
  have go : ∀ {hds' : List ExceptHandler} {l' : List (Value × Option Nat × Suite)}, Clauses X hds' l' → wA X.K Wout D l' cls d σ' H' →
      wpAny (model X.prog X.w) X.A (handleBy (.ref a) X.env hds') (SP X pins D) X.xe { s' with heap := h3 } := by
    intro hds' l' hk
    induction hk with
    | nil =>
      intro w
      refine wpAny_handleBy_nil ?_
      obtain ⟨_, _, _, oe, vs, T, oT, ts', he, hz, hd, h1, hr⟩ := id fl3
      unfold PySem.passOn
      refine wpAny_bind (wpAny_field he hd h1 ?_)
      rw [if_neg (show ¬ ((Value.ref T == Value.none) = true) from by simp)]
      have fin : wpAny (model X.prog X.w) X.A (setFlight (.ref a) X.env.frame) (fun _ s4 => wpAny (model X.prog X.w) X.A (throw (.ref a) : Sem Flow) (SP X pins D) X.xe s4) X.xe { s' with heap := h3 } := by
        rw [hf]
        exact HandSPX.setFlight_upZ fl3 fun h4 hh4 up4 => wpAny_throw (tk _ _ ⟨a, B, sI, pins, σ', H', cls, d, rfl, J, nb, (up.trans up3).trans up4, .inr (.inr (by rw [hs]; exact hh4)), na, os, ag, w⟩)
      first
        | exact wpAny_bind (wpAny_pure (wpAny_bind fin))
        | exact wpAny_bind fin
    | @bare x c ts b₀ su q1 q2 hds2 l2 hc hsu r ih =>
      intro w
      obtain ⟨b, hb1, hyes, hno⟩ := w
      have LT : PySem.W.Looks (model X.prog X.w) h3 (typeOf (.ref a)) cls := fun A Q E s k q => wpAny_typeOf_ref (k _ _ he3) (by rw [hz3.1]; exact q)
      refine wpAny_handleBy_cons (codeAny_handlers_test (cls_read hc S3 ((PySem.W.exm_one (M := model X.prog X.w) J3.kIn LT hb1).here ?_))) (by intro q; cases q)
      cases b with
      | false => exact ih (hno rfl)
      | true =>
        refine codeAny_handlers_suite (HandSPX.lands_againZ fl3 fun h4 fl4 up4 => ?_)
        have J4 : Inv X pins σ' H' { s' with heap := h4 } := J.landed nb fl4.1 ((up.trans up3).trans up4) os ag
        obtain ⟨oe4, vs4, he4, hz4, hd4⟩ := fl4.there
        refine wpAny_mono ((hsu a oe4 cls d (X.pn ++ pins) hz4 ⟨_, hd4⟩).run [] _ _ H' _ (J4.suite he4 hd4 na nL nF) (hyes rfl a na)) (fun f s6 hsp => ?_) (fun _ _ z => False.elim z)
        cases f with
        | ret u =>
          obtain ⟨v6, σ6, H6, S6, r6, q6⟩ := hsp
          exact ⟨v6, σ6, H6, S6.unsuite ok, r6, q6⟩
        | next =>
          obtain ⟨σ6, H6, S6, q6⟩ := hsp
          exact ⟨σ6, H6, S6.unsuite ok, q6⟩
        | brk =>
          obtain ⟨σ6, H6, S6, q6⟩ := hsp
          exact ⟨σ6, H6, S6.unsuite ok, q6⟩
        | cont =>
          obtain ⟨σ6, H6, S6, q6⟩ := hsp
          exact ⟨σ6, H6, S6.unsuite ok, q6⟩
    | @named x n i c ts b₀ su q1 q2 hds2 l2 hc hi hln hsu r ih =>
      intro w
      obtain ⟨b, hb1, hyes, hno⟩ := w
      have LT : PySem.W.Looks (model X.prog X.w) h3 (typeOf (.ref a)) cls := fun A Q E s k q => wpAny_typeOf_ref (k _ _ he3) (by rw [hz3.1]; exact q)
      refine wpAny_handleBy_cons (codeAny_handlers_test (cls_read hc S3 ((PySem.W.exm_one (M := model X.prog X.w) J3.kIn LT hb1).here ?_))) (by intro q; cases q)
      cases b with
      | false => exact ih (hno rfl)
      | true =>
        refine codeAny_handlers_suite_as (HandSPX.lands_againZ fl3 fun h4 fl4 up4 => ?_)
        have J4 : Inv X pins σ' H' { s' with heap := h4 } := J.landed nb fl4.1 ((up.trans up3).trans up4) os ag
        obtain ⟨oe4, vs4, he4, hz4, hd4⟩ := fl4.there
        refine store_ok (X := X.suite a ((a, oe4) :: (X.pn ++ pins))) (v := .ref a) (J4.suite he4 hd4 na nL nF) hN hi (.inl hln) rfl (fun s5 S5 => ?_) (.inr hln)
        refine wpAny_mono ((hsu a oe4 cls d (X.pn ++ pins) hz4 ⟨_, hd4⟩).run [] s5 _ H' _ S5 (hyes rfl a na)) (fun f s6 hsp => ?_) (fun _ _ z => False.elim z)
        have fin : ∀ {σ6 : L2.St} {H6 : Hp} {Q : Shared → Prop}, Inv (X.suite a ((a, oe4) :: (X.pn ++ pins))) [] σ6 H6 s6 → (∀ s7, Inv X pins (σ6.set i none) H6 s7 → Q s7) →
            wpAny (model X.prog X.w) X.A (do bindName X.env n .none; unbindBehindTheSuite X.env n q2) (fun _ s7 => Q s7) X.xe s6 := fun S6 hq => gone_ok (S6.unsuite ok) hN hi hln hq
        cases f with
        | ret u =>
          obtain ⟨v6, σ6, H6, S6, r6, q6⟩ := hsp
          exact fin S6 fun s7 J7 => ⟨_, _, _, J7, r6, q6⟩
        | next =>
          obtain ⟨σ6, H6, S6, q6⟩ := hsp
          exact fin S6 fun s7 J7 => ⟨_, _, J7, q6⟩
        | brk =>
          obtain ⟨σ6, H6, S6, q6⟩ := hsp
          exact fin S6 fun s7 J7 => ⟨_, _, J7, q6⟩
        | cont =>
          obtain ⟨σ6, H6, S6, q6⟩ := hsp
          exact fin S6 fun s7 J7 => ⟨_, _, J7, q6⟩
  exact go hh w
end
end GS

set_option maxRecDepth 100000
set_option maxHeartbeats 4000000
/-! arguments -/
namespace K6
open PySem hiding Tok code
open PySem.Spec PyProof.Rows GD K1
open L2 hiding rest
abbrev sAreA : Stmt := topS 51
theorem szle {n : Nat} (h : n ≤ 5000) : n ≤ sizeLine := Nat.le_trans h (by decide)
theorem szlt {n : Nat} (h : n ≤ 5000) : n < sizeLine := Nat.lt_of_le_of_lt h (by decide)
theorem sfree {H H' : Hp} {p : Addr} (s : Same H H') (n : H' p = none) : H p = none := by
  cases e : H p with
  | none => rfl
  | some o => rw [s p o e] at n; cases n
theorem strans {H H1 H2 : Hp} (a : Same H H1) (b : Same H1 H2) : Same H H2 := fun p o e => b p o (a p o e)
theorem snew {H H1 : Hp} {D : Addr} {o : HO} (s : Same H H1) (n : H1 D = none) : Same H (upd H1 D o) := strans s (Same.lst (Same.refl H1) n)
structure FO (P : Program) (w : World) (K : PySem.W.Frag) (mg : Str → Option Value) (base : Heap) (CX : CXT) (k : Nat) (x : Str) (ps : List Str) (sp : L2.Sp) (f : Addr) (fd : FuncData) : Prop where
  m : mg x = some (.ref f)
  kp : PySem.W.keepIn K (.ref f) = true
  b : Binds K fd ps []
  ok : FnOk P w K mg base CX k f fd ps sp
inductive AV | i (n : Int) | s (z : Str)
def aV : AV → V
  | .i n => .int n
  | .s z => .str z
def aB : AV → Bool
  | .i n => decide (-99999 ≤ n ∧ n ≤ 99999)
  | .s z => strV z
def aS : AV → Prop
  | .i _ => True
  | .s z => z.length ≤ 5000
def argsB (ad : List AV) : Bool := decide (ad.length ≤ 3) && ad.all aB
/-- both tables are there -/
structure T2 (PN PV : Addr) (H : Hp) : Prop where
  n : GxR.TabG H PN
  v : GxR.TabG H PV
/-- all but the tables stays -/
structure ST (PN PV : Addr) (H H' : Hp) : Prop where
  t : T2 PN PV H'
  k : ∀ q o, (∀ ps, o ≠ .tbl ps) → H q = some o → H' q = some o
section
variable {PN PV : Addr} {H H1 H2 : Hp}
theorem ST.trans (a : ST PN PV H H1) (b : ST PN PV H1 H2) : ST PN PV H H2 := ⟨b.t, fun q o n e => b.k q o n (a.k q o n e)⟩
theorem tab_same {P : Addr} (t : GxR.TabG H P) (s : Same H H1) : GxR.TabG H1 P := by
  obtain ⟨ps, e, r⟩ := t
  exact ⟨ps, s _ _ e, r⟩
theorem T2.st (t : T2 PN PV H) (s : Same H H1) : ST PN PV H H1 := ⟨⟨tab_same t.n s, tab_same t.v s⟩, fun q o _ e => s q o e⟩
theorem tab_wr {P l : Addr} {o u : HO} (t : GxR.TabG H P) (e : H l = some u) (n : ∀ ps, u ≠ .tbl ps) : GxR.TabG (upd H l o) P := by
  obtain ⟨ps, e1, r⟩ := t
  refine ⟨ps, ?_, r⟩
  rw [upd_ne (fun z => by rw [z, e] at e1; injection e1 with e1; exact n _ e1)]
  exact e1
theorem ST.wr {l : Addr} {xs : List V} {o : HO} (s : ST PN PV H H1) (nl : H l = none) (e : H1 l = some (.lst xs)) : ST PN PV H (upd H1 l o) :=
  ⟨⟨tab_wr s.t.n e (fun _ z => by cases z), tab_wr s.t.v e (fun _ z => by cases z)⟩, fun q u n e1 => by
    rw [upd_ne (fun z => by rw [z, nl] at e1; cases e1)]
    exact s.k q u n e1⟩
theorem T2.kpV (t : T2 PN PV H) (ne : PN ≠ PV) (k : Kp PV H H1) : ST PN PV H H1 := by
  obtain ⟨ps, e, r⟩ := t.n
  obtain ⟨ps', e', r'⟩ := t.v
  exact ⟨⟨⟨ps, k.2 _ _ ne e, r⟩, k.1⟩, fun q o n e1 => k.2 q o (fun z => by
    rw [z, e'] at e1
    injection e1 with e1
    exact n _ e1.symm) e1⟩
theorem T2.kpN (t : T2 PN PV H) (ne : PN ≠ PV) (k : Kp PN H H1) : ST PN PV H H1 := by
  obtain ⟨ps, e, r⟩ := t.n
  obtain ⟨ps', e', r'⟩ := t.v
  exact ⟨⟨k.1, ⟨ps', k.2 _ _ ne.symm e', r'⟩⟩, fun q o n e1 => k.2 q o (fun z => by
    rw [z, e] at e1
    injection e1 with e1
    exact n _ e1.symm) e1⟩
end
section
variable {P : Program} {w : World} {K : PySem.W.Frag} {mg : Str → Option Value} {base : Heap} {PN PV : Addr}
def spAreA (PN PV : Addr) : L2.Sp := fun vs H Q _ => ∃ (ar : Addr) (ad : List AV), vs = [.ref ar] ∧ H ar = some (.tup (ad.map aV)) ∧ T2 PN PV H ∧ (∀ x ∈ ad, aS x) ∧ ∀ H', ST PN PV H H' → Q (.bl (argsB ad)) H'
theorem scAreA : FnScope ["values", "value"] ["values"] (defScope sAreA) := ⟨rfl, rfl, rfl, by decide +kernel, rfl, by decide +kernel, by decide +kernel⟩
theorem ok_areA {f f1 : Addr} {fd fd1 : FuncData} (F : Fun K "are_arguments" "are_arguments" sAreA f fd) (T : Txt K mg) (T3 : Txt K mg) (TA : ∃ t, mg "ARGUMENTS_MOST" = some (.int 3 t)) (ne : PN ≠ PV)
    (FV : FO P w K mg base CX0 2 "is_value" ["value"] (spValue PV) f1 fd1) : FnOk P w K mg base CX0 3 f fd ["values"] (spAreA PN PV) := by
  have sc := scAreA
  obtain ⟨t1, gAM⟩ := TA
  refine F.ok sc (fun vs H Q E h => ?_) (fun cdv A outer s H vs Q E hr h => ?_)
  · obtain ⟨ar, ad, rfl, _⟩ := h
    rfl
  · obtain ⟨ar, ad, rfl, ha, t2, sm, q⟩ := h
    refine ⟨_, (pss_one (ps_ret (pe_and (pe_cmpR op_le (pe_callB call_len_seq (by rfl) T.len (by decide +kernel) (pa_cons (pv 0) pa_nil)) (pe_gint rfl gAM) (nomark _)) (pe_one (pe_callB (cr_all rfl) (by rfl) T3.all (by decide +kernel) (pa_cons (pe_lc (own := [("value", 1)]) rfl sc.nd (pi_tup (pv 0)) (blkOk_by (own := [("value", 1)]) (N := ["values", "value"]) (sc := defScope sAreA) (by decide +kernel)) (fun _ _ _ _ _ => (pg_name (i := 1) sc.nd rfl (Or.inl rfl))) (fun _ _ _ _ _ => pts_nil) (fun _ _ _ _ _ => (pe_call FV.ok hr (by rfl) FV.m FV.kp FV.b .nil pass0 (pa_cons (pv 1) pa_nil)))) pa_nil)))))), ?_⟩
    refine ⟨_, rfl, ar, _, rfl, .inr (SqT.of ha), _, _, rfl, rfl, _, rfl, ?_⟩
    rw [List.length_map]
    cases hl : decide (((ad.length : Nat) : Int) ≤ 3) with
    | false =>
      refine iteF ?_
      have e : argsB ad = false := by
        unfold argsB
        rw [decide_eq_false (by have := of_decide_eq_false hl; omega)]
        rfl
      rw [← e]
      exact q _ (t2.st (Same.refl H))
    | true =>
      have l3 : ad.length ≤ 3 := by have := of_decide_eq_true hl; omega
      refine iteT ?_
      refine ⟨_, rfl, ar, rfl, ⟨_, SqT.of ha⟩, fun l nl => ?_⟩
      refine lc_it (walk_tup (K := K) (a := ar) (xs := ad.map aV)) (fun j H' => ST PN PV H H' ∧ H' l = some (.lst (((ad.take j).map aB).map V.bl))) ⟨t2.st (Same.lst (Same.refl _) nl), upd_same⟩ (fun i H' _ pv => SqT.of (pv.1.k _ _ (fun _ z => by cases z) ha)) (fun j x H2 H3 hj pv y => ?_) (fun H2 pv => ?_)
      · obtain ⟨rfl, hx⟩ := y
        rw [List.getElem?_map, Option.map_eq_some_iff] at hx
        obtain ⟨a, hi, rfl⟩ := hx
        obtain ⟨s2, el⟩ := pv
        have fin : ∀ H4, ST PN PV H3 H4 → ∃ acc : List V, H4 l = some (.lst acc) ∧ acc.length < sizeLine ∧ ST PN PV H (upd H4 l (.lst (acc ++ [V.bl (aB a)]))) ∧ (upd H4 l (.lst (acc ++ [V.bl (aB a)]))) l = some (.lst (((ad.take (j + 1)).map aB).map V.bl)) := fun H4 s4 => by
          have e4 := s4.k _ _ (fun _ z => by cases z) el
          refine ⟨_, e4, ?_, (s2.trans s4).wr nl e4, ?_⟩
          · rw [List.length_map, List.length_map, List.length_take]
            exact szlt (by omega)
          · rw [upd_same, List.take_add_one, hi, List.map_append, List.map_append]
            rfl
        refine ⟨rfl, _, rfl, ?_⟩
        have sa := sm a (List.mem_of_getElem? hi)
        cases a with
        | s z => exact .inl ⟨z, rfl, sa, s2.t.v, fun H4 kp => fin H4 (s2.t.kpV ne kp)⟩
        | i n => exact .inr ⟨n, rfl, fin H3 (s2.t.st (Same.refl _))⟩
      · have lv : (ad.map aV).length = ad.length := List.length_map _
        rw [lv, List.take_length] at pv
        refine ⟨l, ad.map aB, rfl, SqL.of pv.2, ?_⟩
        have e : argsB ad = (ad.map aB).all id := by
          unfold argsB
          rw [decide_eq_true l3, Bool.true_and, List.all_map]
          rfl
        rw [← e]
        exact q _ pv.1
end
end K6

set_option maxRecDepth 100000
set_option maxHeartbeats 4000000
/-! write_value, _law_value_text, number_of -/
namespace K6
open PySem hiding Tok code
open PySem.Spec PyProof.Rows GD K1
open L2 hiding rest
abbrev sWVal : Stmt := topS 57
abbrev sLVT : Stmt := topS 9999
abbrev sNumOf : Stmt := topS 62
/-- the written form of a value -/
def aT : AV → Str
  | .i n => toString n
  | .s z => "\"" ++ z ++ "\""
section
variable {P : Program} {w : World} {K : PySem.W.Frag} {mg : Str → Option Value} {base : Heap} {PN PV : Addr}
def aZ : AV → Prop
  | .i n => n.natAbs.log2 < 1920
  | .s z => z.length ≤ 5000
def spWVal : L2.Sp := fun vs H Q _ => ∃ a : AV, vs = [aV a] ∧ aZ a ∧ Q (.str (aT a)) H
theorem scWVal : FnScope ["value"] ["value"] (defScope sWVal) := ⟨rfl, rfl, rfl, by decide +kernel, rfl, by decide +kernel, by decide +kernel⟩
theorem ok_wval {f : Addr} {fd : FuncData} (F : Fun K "write_value" "write_value" sWVal f fd) (T : Txt K mg) : FnOk P w K mg base CX0 1 f fd ["value"] spWVal := by
  have T3 := T
  have sc := scWVal
  refine F.ok sc (fun vs H Q E h => ?_) (fun cdv A outer s H vs Q E hr h => ?_)
  · obtain ⟨a, rfl, _⟩ := h
    rfl
  · obtain ⟨a, rfl, sm, q⟩ := h
    refine ⟨_, (pss_one (ps_ret (pe_ifExp (pt_val (pe_callB call_isi (by rfl) T3.isinstance (by decide +kernel) (pa_cons (pv 0) (pa_cons (pe_bltn (v := .ty "int") (by rfl) T3.bint (by decide +kernel) rfl) pa_nil)))) (pe_callTy call_str_int (by rfl) T.bstr (by decide +kernel) (pa_cons (pv 0) pa_nil)) (pe_joined (PJ.cons pe_str (PJ.cons (pe_fmt (pv 0)) (PJ.cons pe_str PJ.nil))))))), ?_⟩
    cases a with
    | s z =>
      refine ⟨_, rfl, _, _, _, _, false, rfl, .ty _, .base (.str _), kit_ty (by decide +kernel), _, rfl, iteF ?_⟩
      have sz : z.length ≤ 5000 := sm
      refine ⟨_, rfl, by decide, ?_⟩
      refine ⟨_, rfl, .inl ⟨z, rfl, szle sz, z, rfl, ?_, ?_⟩⟩
      · rw [show Str.empty = S [] from rfl, show (Str.ofString "\"") = S [34] from rfl, S_app, ← S_of z, S_app, S_len, List.length_append]
        have e : z.cps.toList.length = z.length := Array.length_toList
        exact Nat.le_trans (m := 6000) (by rw [e]; simp only [List.nil_append, List.length_append, List.length_cons, List.length_nil]; omega) (by decide)
      · refine ⟨_, rfl, ?_, ?_⟩
        · rw [show Str.empty = S [] from rfl, show (Str.ofString "\"") = S [34] from rfl, S_app, ← S_of z, S_app, S_app, S_len, List.length_append, List.length_append]
          have e : z.cps.toList.length = z.length := Array.length_toList
          exact Nat.le_trans (m := 6000) (by rw [e]; simp only [List.nil_append, List.length_append, List.length_cons, List.length_nil]; omega) (by decide)
        · have e : Str.empty ++ Str.ofString "\"" ++ z ++ Str.ofString "\"" = aT (.s z) := by
            rw [show Str.empty = S [] from rfl]
            unfold aT
            rw [show (Str.ofString "\"") = S [34] from rfl, S_app]
            rfl
          show Q (.str (Str.empty ++ Str.ofString "\"" ++ z ++ Str.ofString "\"")) H
          rw [e]
          exact q
    | i n =>
      refine ⟨_, rfl, _, _, _, _, true, rfl, .ty _, .base (.int _), kit_ty (by decide +kernel), _, rfl, iteT ?_⟩
      exact ⟨_, rfl, _, rfl, sm, q⟩
theorem uni_dig : ∀ c, c < 128 → Unicode.isDigit c = decide (c ∈ DIG) := by decide +kernel
def digB (z : Str) : Bool := !z.cps.toList.isEmpty && z.cps.toList.all fun c => decide (c ∈ DIG)
theorem isdig {z : Str} (ha : ∀ c ∈ z.cps.toList, c < 128) : PySem.Txt.isdigit z = digB z := by
  have e : ∀ l : List Nat, (∀ c ∈ l, c < 128) → l.all Unicode.isDigit = l.all fun c => decide (c ∈ DIG) := fun l => by
    induction l with
    | nil => exact fun _ => rfl
    | cons c r ih => exact fun h => by rw [List.all_cons, List.all_cons, ih fun c hc => h c (List.mem_cons_of_mem _ hc), uni_dig c (h c List.mem_cons_self)]
  show (decide (z.length > 0) && z.cps.all Unicode.isDigit) = _
  rw [← Array.all_toList, e _ ha]
  unfold digB
  congr 1
  have el : z.cps.toList.length = z.length := Array.length_toList
  cases hl : z.cps.toList with
  | nil =>
    rw [hl] at el
    exact decide_eq_false (by rw [← el]; decide)
  | cons c r =>
    rw [hl] at el
    exact decide_eq_true (by rw [← el]; exact Nat.succ_pos _)
/-- what number_of gives, where the greatest number has L digits -/
def numB (z : Str) (m : Int) (L : Nat) : V := if digB z = true ∧ z.length ≤ L ∧ ((val z.cps.toList : Nat) : Int) ≤ m then .int (val z.cps.toList : Nat) else .non
def spNumOf : L2.Sp := fun vs H Q _ => ∃ (z : Str) (m : Nat) (L : Nat), vs = [.str z, .int m] ∧ z.length ≤ 5000 ∧ (∀ c ∈ z.cps.toList, c < 128) ∧ m < 100000 ∧ (Str.ofString (toString (m : Int))).length = L ∧ L ≤ 4 ∧ Q (numB z m L) H
theorem scNumOf : FnScope ["text", "most"] ["text", "most"] (defScope sNumOf) := ⟨rfl, rfl, rfl, by decide +kernel, rfl, by decide +kernel, by decide +kernel⟩
theorem ok_numOf {f : Addr} {fd : FuncData} (F : Fun K "number_of" "number_of" sNumOf f fd) (T : Txt K mg) : FnOk P w K mg base CX0 1 f fd ["text", "most"] spNumOf := by
  have T3 := T
  have sc := scNumOf
  refine F.ok sc (fun vs H Q E h => ?_) (fun cdv A outer s H vs Q E hr h => ?_)
  · obtain ⟨z, m, L, rfl, _⟩ := h
    rfl
  · obtain ⟨z, m, L, rfl, hz, ha, mh, hL, L4, q⟩ := h
    refine ⟨_, (pss_cons (ps_if (PW.pt (pw_or (pt_not (pt_val (pe_m0 PySem.F.slot_str_isdigit PySem.F.type_str_isdigit mt_isdigit (pv 0)))) (pw_or1 (pt_cmpR op_gt (pe_callB call_len_str (by rfl) T.len (by decide +kernel) (pa_cons (pv 0) pa_nil)) (pe_callB call_len_str (by rfl) T.len (by decide +kernel) (pa_cons (pe_callTy call_str_int (by rfl) T.bstr (by decide +kernel) (pa_cons (pv 1) pa_nil)) pa_nil)) (nomark _)))))
      (pss_one (ps_ret pe_non))
      pss_nil)
      (pss_one (ps_ret (pe_ifExp (pt_cmpR op_le (pe_callTy call_int_str (by rfl) T.bint (by decide +kernel) (pa_cons (pv 0) pa_nil)) (pv 1) (nomark _)) (pe_callTy call_int_str (by rfl) T.bint (by decide +kernel) (pa_cons (pv 0) pa_nil)) pe_non)))), ?_⟩
    refine ⟨_, rfl, ⟨z, rfl⟩, z, rfl, rfl, trivial, ?_⟩
    rw [isdig ha]
    cases hd : digB z with
    | false =>
      have e : numB z m L = .non := if_neg fun x => by rw [hd] at x; exact absurd x.1 (by decide)
      rw [e] at q
      exact ⟨_, rfl, q⟩
    | true =>
      refine ⟨_, rfl, ?_⟩
      refine iteF ?_
      refine ⟨_, rfl, _, rfl, szle hz, _, rfl, _, rfl, log_small mh, _, rfl, szle (by rw [hL]; omega), _, _, rfl, rfl, _, rfl, ?_⟩
      rw [hL]
      have dl : z.cps.toList ≠ [] ∧ ∀ c ∈ z.cps.toList, c ∈ DIG := by
        unfold digB at hd
        rw [Bool.and_eq_true, List.all_eq_true] at hd
        exact ⟨fun x => by rw [x] at hd; exact absurd hd.1 (by decide), fun c hc => of_decide_eq_true (hd.2 c hc)⟩
      refine ite2 (fun h => ?_) (fun h => ?_)
      · have h := of_decide_eq_true h
        have e : numB z m L = .non := if_neg fun x => by have := x.2.1; omega
        rw [e] at q
        exact q
      · have h : ¬ ((L : Int) < z.length) := fun x => h (decide_eq_true x)
        have rd : PySem.intText? z = some ((val z.cps.toList : Nat) : Int) := PySem.intText_digits (x := z) (fun d hd => dig_range (dl.2 d hd)) dl.1 (by omega)
        refine ⟨_, rfl, z, _, rfl, rd, by omega, _, rfl, _, _, rfl, rfl, _, rfl, ite2 (fun h2 => ?_) (fun h2 => ?_)⟩
        · have h2 := of_decide_eq_true h2
          refine ⟨_, rfl, z, _, rfl, rd, by omega, ?_⟩
          have e : numB z m L = .int (val z.cps.toList : Nat) := if_pos ⟨hd, by omega, h2⟩
          rw [e] at q
          exact q
        · have e : numB z m L = .non := if_neg fun x => h2 (decide_eq_true x.2.2)
          rw [e] at q
          exact q
end
end K6

set_option maxRecDepth 100000
set_option maxHeartbeats 4000000
/-! len(set(names)): how many different texts -/
namespace K6
open PySem hiding Tok code
open PySem.Spec PyProof.Rows
/-- the different ones, in the order in which they come -/
def dif : List Str → List Str
  | [] => []
  | x :: r => if x ∈ r then dif r else x :: dif r
/-- how many different ones are among the first i -/
def difN (xs : List Str) : Nat → Nat
  | 0 => 0
  | i + 1 => if xs.getD i Str.empty ∈ xs.take i then difN xs i else difN xs i + 1
theorem difN_le (xs : List Str) : ∀ i, difN xs i ≤ i
  | 0 => Nat.le_refl _
  | i + 1 => by
    have := difN_le xs i
    unfold difN
    split <;> omega
theorem take_mem (xs : List Str) {i : Nat} (h : i < xs.length) (k : Str) : decide (k ∈ xs.take (i + 1)) = (decide (k ∈ xs.take i) || decide (k = xs.getD i Str.empty)) := by
  rw [List.take_add_one, List.getD_eq_getElem?_getD, List.getElem?_eq_getElem h, ← Bool.decide_or]
  refine decide_eq_decide.mpr ?_
  show k ∈ xs.take i ++ [xs[i]] ↔ k ∈ xs.take i ∨ k = xs[i]
  rw [List.mem_append, List.mem_singleton]
section
variable {prog : Program} {w : World} {A : Around} {R : Result → Shared → Prop} {I : Addr} {fp wr : List Addr} {G : Array GenState → Array GenState → Prop} {n : Nat} {P : Nat → Value → Prop} {St : Nat → Shared → Prop}
theorem set_loop (W : WalksS prog w A.in1 I fp wr G n P St) {S : Addr} (out : S ∉ fp) {xs : List Str} (hn : xs.length = n) (room : n + 1 < scanBound)
    (at_ : ∀ i v, P i v → ∃ t, v = .str (xs.getD i Str.empty) t) (j : Nat) :
    ∀ (i : Nat) (s : Shared), i + j = n → St i s → s.heap.SetOf (strKind prog w) S (fun k => decide (k ∈ xs.take i)) (difN xs i) →
      (∀ s', Moved (S :: wr) G s s' → s'.heap.SetOf (strKind prog w) S (fun k => decide (k ∈ xs.take n)) (difN xs n) → R (.ok (.ret .none)) s') →
      codeAny (model prog w) A (.builtin "set.update.loop" ⟨[.ref S, .ref I], []⟩) R s := by
  have nw : S ∉ wr := fun h => out (W.sub _ h)
  have stay : ∀ {s s' : Shared} {T : Str → Bool} {c : Nat}, Moved wr G s s' → s.heap.SetOf (strKind prog w) S T c → s'.heap.SetOf (strKind prog w) S T c := fun m hS => by
    obtain ⟨o, es, ep, t, ho, r⟩ := hS
    exact ⟨o, es, ep, t, m.heap S _ nw ho, r⟩
  have more : ∀ {s s' : Shared}, Moved wr G s s' → Moved (S :: wr) G s s' := fun m => m.mono fun b hb => List.mem_cons_of_mem _ hb
  induction j with
  | zero =>
    intro i s hi hst hS hR
    obtain rfl : i = n := hi
    refine codeAny_builtin F.entry_set_update_loop ?_
    rw [Around.under_plainId F.plain_set_update_loop _]
    show wpAny _ A.in1 (pyNext (.ref I) >>= _) _ _ s
    exact wpAny_bind (W.done s _ _ hst fun s' m => wpAny_pure (hR s' (more m) (stay m hS)))
  | succ j ih =>
    intro i s hi hst hS hR
    have lt : i < n := by omega
    refine codeAny_builtin F.entry_set_update_loop ?_
    rw [Around.under_plainId F.plain_set_update_loop _]
    show wpAny _ A.in1 (pyNext (.ref I) >>= _) _ _ s
    refine wpAny_bind (W.item i s _ _ lt hst fun v s' hv hst' m => ?_)
    obtain ⟨t, rfl⟩ := at_ i v hv
    refine wpAny_bind (m := holding [Value.str (xs.getD i Str.empty) t] (setAdd S (.str (xs.getD i Str.empty) t))) (wpAny_holding ?_)
    unfold setAdd
    refine wpAny_holding (wpAny_bind ((strKind prog w).pyHash (k := xs.getD i Str.empty) (strKind_is _ _ _ _) ?_))
    have le := difN_le xs i
    have hS1 := stay m hS
    refine wpAny_setAddHashed_of (knd := strKind prog w) (s := { s' with toks := s'.toks + 1 }) (strKind_is _ _ _ _) rfl hS1 (by omega) fun h' keeps hS2 => ?_
    have hS3 : h'.SetOf (strKind prog w) S (fun k => decide (k ∈ xs.take (i + 1))) (difN xs (i + 1)) :=
      SetOf_congr hS2 (fun k => (take_mem xs (by omega) k).symm) (by
        show (if decide (xs.getD i Str.empty ∈ xs.take i) = true then _ else _) = if _ then _ else _
        by_cases e : xs.getD i Str.empty ∈ xs.take i
        · rw [if_pos (decide_eq_true e), if_pos e]
        · rw [if_neg (by rw [decide_eq_false e]; decide), if_neg e])
    have apart : ∀ b, b ≠ S → ∀ o, s'.heap.get? b = some o → h'.get? b = some o := fun b ne o e => by
      rw [keeps.2 b ne]
      exact e
    refine wpAny_pure ⟨plainId_quiet F.plain_set_update_loop _, ih (i + 1) _ (by omega) (W.frame _ s' _ _ hst' (Nat.le_succ _) fun b hb o e => apart b (fun z => out (z ▸ hb)) o e) hS3 fun s2 m2 hS4 => ?_⟩
    exact hR s2 (Moved.trans W.gtrans ((more m).then_heap (Nat.le_succ _) fun b o hb e => apart b (fun z => hb (z ▸ List.mem_cons_self)) o e) m2) hS4
end
end K6

set_option maxRecDepth 100000
set_option maxHeartbeats 8000000
/-! set(names) of a tuple of texts, and len(set(names)) -/
namespace K6
open PySem hiding Tok code
open PySem.Spec PyProof.Rows
abbrev emptySet (led : Bool) : Obj := { cls := .type "set", dict := none, data := .set #[] 0 (.fresh 0 0 led) }
section
variable {prog : Program} {w : World} {A : Around} {E : Value → Shared → Prop} {s : Shared}
/-- what holds of the heap behind set(names) -/
def Made (prog : Program) (w : World) (s : Shared) (xs : List Str) (h' : Heap) : Prop :=
  h'.SetOf (strKind prog w) s.heap.objs.size (fun k => decide (k ∈ xs)) (difN xs xs.length) ∧ ∀ b o, b < s.heap.objs.size → s.heap.get? b = some o → h'.get? b = some o
theorem fill {l : Addr} {items : Array Value} {xs : List Str} {led : Bool} (hh : A.handled = none) (hl : s.heap.IsTuple l items) (hi : StrsAre items.toList xs) (room : xs.length + 1 < scanBound)
    {Q : PySem.Fin → Shared → Prop} (q : ∀ h' tk, Made prog w s xs h' → Q (.done (.ret Value.none)) { s with heap := h', toks := tk }) :
    wpAny (model prog w) A (Builtin.«set.__init__» ⟨[.ref s.heap.objs.size, .ref l], []⟩) Q E { s with heap := s.heap.push (emptySet led) } := by
  have lt : l < s.heap.objs.size := by
    obtain ⟨o, ho, _⟩ := hl
    exact Heap.lt_size ho
  have hl1 : (s.heap.push (emptySet led)).IsTuple l items := hl.push _
  have hsz : xs.length = items.size := by rw [← StrsAre.len_eq hi, Array.length_toList]
  have e1 := PySem.F.sub_tuple_set
  have e2 := PySem.F.sub_tuple_frozenset
  have e3 : (Value.type "tuple" == Value.type "dict") = false := by decide
  have hl2 := hl1
  obtain ⟨ol, hol, hcl, nl, hdl⟩ := hl2
  obtain ⟨ocls, odict, odata, oslots⟩ := ol
  simp only at hcl hdl
  subst hcl; subst hdl
  unfold Builtin.«set.__init__» noKeywords Builtin.Frozenset.updateFrom
  generalize hPI : pyIter = PI
  wp_walk
  subst hPI
  have hS : (s.heap.push (emptySet led)).get? s.heap.objs.size = some (emptySet led) := Heap.get?_push_size _ rfl
  have sz : (s.heap.push (emptySet led)).objs.size = s.heap.objs.size + 1 := Heap.size_push _ _
  refine wpAny_pyIter_tuple hl1 ?_
  refine wpAny_bind (wpAny_runValue ?_)
  have hneI : l ≠ (s.heap.push (emptySet led)).objs.size := by rw [sz]; exact Nat.ne_of_lt (Nat.lt_succ_of_lt lt)
  have hSf : s.heap.objs.size ∉ [(s.heap.push (emptySet led)).objs.size, l] := by
    rw [sz]
    simp only [List.mem_cons, List.not_mem_nil, or_false, not_or]
    exact ⟨Nat.ne_of_lt (Nat.lt_succ_self _), Nat.ne_of_gt lt⟩
  refine set_loop (n := items.size) ((Walks.tuple (by simpa using hh) _ l hneI items).toS) hSf hsz (hsz ▸ room) (fun i v hv => SS.strs_at hi i v (by rw [Array.getElem?_toList]; exact hv)) items.size 0 _ (Nat.zero_add _)
    ⟨⟨_, Heap.get?_push_size _ rfl, rfl, rfl⟩, hl1.push _⟩ ?_ fun s' m hS' => ?_
  · exact SetOf_congr ((setObjOf_fresh (knd := strKind prog w) led).setOf (Heap.get?_push_of_some _ hS) (by unfold scanBound; omega)) (fun _ => rfl) rfl
  · obtain ⟨h', g', d', tk', os'⟩ := s'
    obtain rfl : g' = s.gens := m.gens
    obtain rfl : d' = s.drawn := m.drawn
    obtain rfl : os' = s.os := m.os
    rw [← hsz, List.take_length] at hS'
    refine wpAny_pure (wpAny_pure (q h' tk' ⟨hS', fun b o hb e => m.heap b o ?_ (Heap.get?_push_of_some _ (Heap.get?_push_of_some _ e))⟩))
    rw [sz]
    simp only [List.mem_cons, List.not_mem_nil, or_false, not_or]
    exact ⟨Nat.ne_of_lt hb, Nat.ne_of_lt (Nat.lt_succ_of_lt hb)⟩
/-- set(names), names a tuple of texts -/
theorem set_of_tuple {l : Addr} {items : Array Value} {xs : List Str} (hh : A.handled = none) (hl : s.heap.IsTuple l items) (hi : StrsAre items.toList xs) (room : xs.length + 1 < scanBound)
    {Q : Value → Shared → Prop} (q : ∀ h' tk, Made prog w s xs h' → Q (.ref s.heap.objs.size) { s with heap := h', toks := tk }) :
    wpAny (model prog w) A (call (.type "set") [.ref l]) Q E s := by
  obtain ⟨c, tl, hmro⟩ := PySem.F.called_set.mro
  have e1 := PySem.F.called_set.made
  have e2 := PySem.F.called_set.sub
  have e3 := PySem.F.called_set.notType
  have e4 := PySem.F.called_set.canCreate
  have e5 := PySem.F.typeCall_set_1 (.ref l)
  refine wpAny_call (codeAny_of_tree ?_)
  show wpAny _ _ (callAny (.type "set") _) _ _ _
  refine wpAny_pure ⟨Code.quiet_builtin _ (by decide +kernel), codeAny_builtin PySem.F.entry_type_call ?_⟩
  rw [Around.under_plain (weight_type_call_type "set" [.ref l] []) rfl]
  repeat (any_goals (first | assumption | wp_step))
  refine codeAny_mono (code_set_new_1 (.ref l) (E := E) (Q₁ := fun x s1 => ∃ led : Bool, x = .ref s.heap.objs.size ∧ s1 = { s with heap := s.heap.push (emptySet led) }) fun led => ⟨led, rfl, rfl⟩) fun r s1 hr => ?_
  match r, hr with
  | .error _, hr => exact hr
  | .ok (.ret x), hr =>
    obtain ⟨led, rfl, rfl⟩ := hr
    have hS : (s.heap.push (emptySet led)).get? s.heap.objs.size = some (emptySet led) := Heap.get?_push_size _ rfl
    have hT : Shared.TypeIs { s with heap := s.heap.push (emptySet led) } (.ref s.heap.objs.size) "set" := ⟨_, hS, rfl⟩
    have e6 := PySem.F.called_set.init.lookup
    have e7 := PySem.F.called_set.init.bind (.ref s.heap.objs.size)
    repeat (any_goals (first | assumption | wp_step))
    refine codeAny_mono (codeAny_call_builtin (R := wants (fun r s2 => r = .none ∧ ∃ h' tk, s2 = { s with heap := h', toks := tk } ∧ Made prog w s xs h') E) PySem.F.called_set.init.plain PySem.F.entry_set_init (check_set_init_1 hT ?_)) fun r2 s2 hr2 => ?_
    · exact fill (by simpa using hh) hl hi room fun h' tk m => ⟨rfl, h', tk, rfl, m⟩
    · match r2, hr2 with
      | .error _, hr2 => exact hr2
      | .ok (.ret _), hr2 =>
        obtain ⟨rfl, h', tk, rfl, m⟩ := hr2
        repeat (any_goals (first | assumption | wp_step))
        exact q _ _ m
end
end K6

set_option maxRecDepth 100000
set_option maxHeartbeats 4000000
/-! len(set(names)); has_twice -/
namespace L2
open PySem hiding Tok code
open PySem.Spec PyProof.Rows
section
variable {X : Cx}
def tLenSetS (K : PySem.W.Frag) (ta : TE) : TE := fun σ H Q => ta σ H fun x H1 => ∃ (l : Addr) (xs : List Str), x = .ref l ∧ SqT K H1 l (xs.map V.str) ∧ xs.length ≤ 1000 ∧ Q (.int (K6.difN xs xs.length : Nat)) H1
theorem pe_lenSetS {a : Expr} {ta : TE} {p p2 q pos : Pos} (hc : X.calm = true) (hg : Gl X "len") (hm : X.mg "len" = none) (hg2 : Gl X "set") (hm2 : X.mg "set" = none) (ha : PE X a ta)
    (na : starEach [a] X.env = (false, eval a X.env) :: starEach [] X.env := by rfl) : PE X (.Call (.Name "len" p) [.Call (.Name "set" p2) [a] [] q] [] pos) (tLenSetS X.K ta) := by
  refine ⟨fun pins s σ H Q I h => Call_ (ld_blt I hg hm boot_len ?_)⟩
  refine callWith_builtin1 (args_cons ?_ rfl) rfl rfl
  refine Call_ (ld_blt I hg2 hm2 boot_set ?_)
  refine callWith_type1 (args_cons (thn (ha.run pins s σ H _ I h) fun v s1 ⟨x, H1, I1, r1, q1⟩ => args_nil ?_) na) na rfl
  obtain ⟨l, xs, rfl, hq, h1, q1⟩ := q1
  cases r1
  obtain ⟨its, r, pl, hz⟩ := I1.tuple hq
  have le := K6.difN_le xs xs.length
  refine K6.set_of_tuple (I1.ok.hd hc) pl (by simpa using strsAre_of r) (by unfold scanBound; omega) fun h' tk m => args_nil ?_
  obtain ⟨⟨o, es, ep, t, ho, hex, hd, _, _, _, hf, hn⟩, hk⟩ := m
  have I2 : Inv X pins σ H1 { s1 with heap := h', toks := tk } := I1.kept fun b o e => hk b o (Heap.lt_size e) e
  exact call_len_set ho hex hd hf (by rw [hn]; omega) ⟨.int (K6.difN xs xs.length : Nat), H1, I2.tok _, ⟨_, by rw [hn]⟩, q1⟩
end
end L2
namespace K6
open PySem hiding Tok code
open PySem.Spec PyProof.Rows GD K1
open L2 hiding rest
abbrev sTwice : Stmt := topS 44
section
variable {P : Program} {w : World} {K : PySem.W.Frag} {mg : Str → Option Value} {base : Heap} {PN PV : Addr}
def twB (xs : List Str) : Bool := decide (difN xs xs.length < xs.length)
def spTwice (K : PySem.W.Frag) : L2.Sp := fun vs H Q _ => ∃ (a : Addr) (xs : List Str), vs = [.ref a] ∧ SqT K H a (xs.map V.str) ∧ xs.length ≤ 1000 ∧ Q (.bl (twB xs)) H
theorem scTwice : FnScope ["names"] ["names"] (defScope sTwice) := ⟨rfl, rfl, rfl, by decide +kernel, rfl, by decide +kernel, by decide +kernel⟩
theorem ok_twice {f : Addr} {fd : FuncData} (F : Fun K "has_twice" "has_twice" sTwice f fd) (T : Txt K mg) (hset : mg "set" = none) : FnOk P w K mg base CX0 1 f fd ["names"] (spTwice K) := by
  have T3 := T
  have sc := scTwice
  refine F.ok sc (fun vs H Q E h => ?_) (fun cdv A outer s H vs Q E hr h => ?_)
  · obtain ⟨a, xs, rfl, _⟩ := h
    rfl
  · obtain ⟨a, xs, rfl, ha, hl, q⟩ := h
    refine ⟨_, (pss_one (ps_ret (pe_cmpR op_lt (pe_lenSetS rfl (by rfl) T.len (by rfl) hset (pv 0)) (pe_callB call_len_seq (by rfl) T.len (by decide +kernel) (pa_cons (pv 0) pa_nil)) (nomark _)))), ?_⟩
    refine ⟨_, rfl, a, xs, rfl, ha, hl, _, rfl, a, _, rfl, .inr ha, _, _, rfl, rfl, ?_⟩
    have e : twB xs = decide (((difN xs xs.length : Nat) : Int) < ((xs.map V.str).length : Nat)) := by
      unfold twB
      rw [List.length_map]
      exact decide_eq_decide.mpr (by omega)
    rw [e] at q
    exact q
/-! are_names, are_entries -/
theorem kget {H H' : Hp} (tb : GxR.TabG H PN) (k : Kp PN H H') {q : Addr} {o : HO} (n : ∀ ps, o ≠ .tbl ps) (e : H q = some o) : H' q = some o := by
  obtain ⟨ps, e', _⟩ := tb
  exact k.2 q o (fun z => by
    rw [z, e'] at e
    injection e with e
    exact n _ e.symm) e
theorem ktrans {H H1 H2 : Hp} (a : Kp PN H H1) (b : Kp PN H1 H2) : Kp PN H H2 := ⟨b.1, fun q o n e => b.2 q o n (a.2 q o n e)⟩
theorem kwr {H H1 : Hp} {l : Addr} {xs : List V} {o : HO} (k : Kp PN H H1) (nl : H l = none) (e : H1 l = some (.lst xs)) : Kp PN H (upd H1 l o) :=
  ⟨tab_wr k.1 e (fun _ z => by cases z), fun q u n e1 => by
    rw [upd_ne (fun z => by rw [z, nl] at e1; cases e1)]
    exact k.2 q u n e1⟩
theorem knew {H : Hp} {l : Addr} {o : HO} (tb : GxR.TabG H PN) (nl : H l = none) : Kp PN H (upd H l o) :=
  ⟨tab_same tb (Same.lst (Same.refl _) nl), fun q u n e1 => by
    rw [upd_ne (fun z => by rw [z, nl] at e1; cases e1)]
    exact e1⟩
def namsB (xs : List Str) (m : Nat) : Bool := decide (xs.length ≤ m) && !twB xs && xs.all nameB
def spAreN (K : PySem.W.Frag) (PN : Addr) : L2.Sp := fun vs H Q _ => ∃ (a : Addr) (xs : List Str) (m : Nat), vs = [.ref a, .int m] ∧ H a = some (.tup (xs.map V.str)) ∧ m ≤ 1000 ∧ GxR.TabG H PN ∧ (∀ x ∈ xs, x.length ≤ 5000) ∧ ∀ H', Kp PN H H' → Q (.bl (namsB xs m)) H'
def spAreE (K : PySem.W.Frag) (PN : Addr) : L2.Sp := fun vs H Q _ => ∃ (a : Addr) (xs : List Str), vs = [.ref a] ∧ H a = some (.tup (xs.map V.str)) ∧ GxR.TabG H PN ∧ (∀ x ∈ xs, x.length ≤ 5000) ∧ ∀ H', Kp PN H H' → Q (.bl (decide (0 < xs.length) && namsB xs 3)) H'
abbrev sAreN : Stmt := topS 49
abbrev sAreE : Stmt := topS 50
theorem scAreN : FnScope ["texts", "most", "text"] ["texts", "most"] (defScope sAreN) := ⟨rfl, rfl, rfl, by decide +kernel, rfl, by decide +kernel, by decide +kernel⟩
theorem scAreE : FnScope ["names"] ["names"] (defScope sAreE) := ⟨rfl, rfl, rfl, by decide +kernel, rfl, by decide +kernel, by decide +kernel⟩
theorem ok_areN {f f1 f2 : Addr} {fd fd1 fd2 : FuncData} (F : Fun K "are_names" "are_names" sAreN f fd) (T : Txt K mg) (T3 : Txt K mg)
    (FT : FO P w K mg base CX0 1 "has_twice" ["names"] (spTwice K) f1 fd1) (FN : FO P w K mg base CX0 1 "is_name" ["text"] (spName PN) f2 fd2) : FnOk P w K mg base CX0 2 f fd ["texts", "most"] (spAreN K PN) := by
  have sc := scAreN
  refine F.ok sc (fun vs H Q E h => ?_) (fun cdv A outer s H vs Q E hr h => ?_)
  · obtain ⟨a, xs, m, rfl, _⟩ := h
    rfl
  · obtain ⟨a, xs, m, rfl, ha, hm, tb, sm, q⟩ := h
    refine ⟨_, (pss_one (ps_ret (pe_and (pe_cmpR op_le (pe_callB call_len_seq (by rfl) T.len (by decide +kernel) (pa_cons (pv 0) pa_nil)) (pv 1) (nomark _)) (pe_and (pe_not (pe_call FT.ok hr (by rfl) FT.m FT.kp FT.b .nil pass0 (pa_cons (pv 0) pa_nil))) (pe_one (pe_callB (cr_all rfl) (by rfl) T3.all (by decide +kernel) (pa_cons (pe_lc (own := [("text", 2)]) rfl sc.nd (pi_tup (pv 0)) (blkOk_by (own := [("text", 2)]) (N := ["texts", "most", "text"]) (sc := defScope sAreN) (by decide +kernel)) (fun _ _ _ _ _ => (pg_name (i := 2) sc.nd rfl (Or.inl rfl))) (fun _ _ _ _ _ => pts_nil) (fun _ _ _ _ _ => (pe_call FN.ok hr (by rfl) FN.m FN.kp FN.b .nil pass0 (pa_cons (pv 2) pa_nil)))) pa_nil))))))), ?_⟩
    refine ⟨_, rfl, a, _, rfl, .inr (SqT.of ha), _, rfl, _, _, rfl, rfl, _, rfl, ?_⟩
    rw [List.length_map]
    cases hl : decide (((xs.length : Nat) : Int) ≤ (m : Nat)) with
    | false =>
      refine iteF ?_
      have e : namsB xs m = false := by
        unfold namsB
        rw [decide_eq_false (by have := of_decide_eq_false hl; omega)]
        rfl
      have := q H (Kp.refl tb)
      rw [e] at this
      exact this
    | true =>
      have lm : xs.length ≤ m := by have := of_decide_eq_true hl; omega
      refine iteT ?_
      refine ⟨_, rfl, a, xs, rfl, SqT.of ha, by omega, ?_⟩
      cases ht : twB xs with
      | true =>
        have e : namsB xs m = false := by
          unfold namsB
          rw [ht, Bool.not_true, Bool.and_false, Bool.false_and]
        have := q H (Kp.refl tb)
        rw [e] at this
        exact ⟨_, rfl, _, rfl, this⟩
      | false =>
        have e : namsB xs m = xs.all nameB := by
          unfold namsB
          rw [ht, decide_eq_true lm]
          rfl
        refine ⟨_, rfl, _, rfl, ?_⟩
        refine iteT ?_
        refine ⟨_, rfl, a, rfl, ⟨_, SqT.of ha⟩, fun l nl => ?_⟩
        refine lc_it (walk_tup (K := K) (a := a) (xs := xs.map V.str)) (fun j H' => Kp PN H H' ∧ H' l = some (.lst (((xs.take j).map nameB).map V.bl))) ⟨knew tb nl, upd_same⟩ (fun i H' _ pv => SqT.of (kget tb pv.1 (fun _ z => by cases z) ha)) (fun j x H2 H3 hj pv y => ?_) (fun H2 pv => ?_)
        · obtain ⟨rfl, hx⟩ := y
          rw [List.getElem?_map, Option.map_eq_some_iff] at hx
          obtain ⟨z, hi, rfl⟩ := hx
          obtain ⟨s2, el⟩ := pv
          refine ⟨rfl, _, rfl, z, rfl, sm z (List.mem_of_getElem? hi), s2.1, fun H4 kp => ?_⟩
          have e4 := kget s2.1 kp (fun _ z => by cases z) el
          refine ⟨_, e4, ?_, kwr (ktrans s2 kp) nl e4, ?_⟩
          · rw [List.length_map, List.length_map, List.length_take]
            exact szlt (by omega)
          · rw [upd_same, List.take_add_one, hi, List.map_append, List.map_append]
            rfl
        · have lv : (xs.map V.str).length = xs.length := List.length_map _
          rw [lv, List.take_length] at pv
          refine ⟨l, xs.map nameB, rfl, SqL.of pv.2, ?_⟩
          have e2 : xs.all nameB = (xs.map nameB).all id := by
            rw [List.all_map]
            rfl
          have := q _ pv.1
          rw [e, e2] at this
          exact this
theorem ok_areE {f f1 : Addr} {fd fd1 : FuncData} (F : Fun K "are_entries" "are_entries" sAreE f fd) (T : Txt K mg) (T3 : Txt K mg) (TE : ∃ t, mg "ENTRIES_MOST" = some (.int 3 t))
    (FA : FO P w K mg base CX0 2 "are_names" ["texts", "most"] (spAreN K PN) f1 fd1) : FnOk P w K mg base CX0 3 f fd ["names"] (spAreE K PN) := by
  have sc := scAreE
  obtain ⟨t1, gEM⟩ := TE
  refine F.ok sc (fun vs H Q E h => ?_) (fun cdv A outer s H vs Q E hr h => ?_)
  · obtain ⟨a, xs, rfl, _⟩ := h
    rfl
  · obtain ⟨a, xs, rfl, ha, tb, sm, q⟩ := h
    refine ⟨_, (pss_one (ps_ret (pe_and (pe_cmpR op_gt (pe_callB call_len_seq (by rfl) T.len (by decide +kernel) (pa_cons (pv 0) pa_nil)) pe_int (nomark _)) (pe_one (pe_call FA.ok hr (by rfl) FA.m FA.kp FA.b .nil pass0 (pa_cons (pv 0) (pa_cons (pe_gint rfl gEM) pa_nil))))))), ?_⟩
    refine ⟨_, rfl, a, _, rfl, .inr (SqT.of ha), _, _, rfl, rfl, _, rfl, ?_⟩
    rw [List.length_map]
    cases hl : decide ((0 : Int) < (xs.length : Nat)) with
    | false =>
      refine iteF ?_
      have e : (decide (0 < xs.length) && namsB xs 3) = false := by
        rw [decide_eq_false (by have := of_decide_eq_false hl; omega)]
        rfl
      have := q H (Kp.refl tb)
      rw [e] at this
      exact this
    | true =>
      refine iteT ?_
      refine ⟨_, rfl, a, xs, 3, rfl, ha, by decide, tb, sm, fun H' k => ?_⟩
      have e : (decide (0 < xs.length) && namsB xs 3) = namsB xs 3 := by
        rw [decide_eq_true (by have := of_decide_eq_true hl; omega)]
        rfl
      have := q H' k
      rw [e] at this
      exact this
end
end K6

set_option maxRecDepth 100000
set_option maxHeartbeats 4000000
/-! ("..", x, y.replace(a, b)) -/
namespace L2
open PySem hiding Tok code
open PySem.Spec PyProof.Rows
section
variable {X : Cx} {es : List Expr} {t : TA}
/-- behind a written text the count of tokens isn't 0 -/
theorem pa_strT {x : Str} {j : Nat} {p : Pos} (hr : PAT X es t)
    (hs : starEach (.Constant (.str x) j p :: es) X.env = (false, eval (.Constant (.str x) j p) X.env) :: starEach es X.env := by rfl) : PA X (.Constant (.str x) j p :: es) (tCons (tC (.str x)) t) := by
  refine ⟨fun pos pins s σ H Q I h => ?_⟩
  rw [hs]
  show wpAny _ _ (spliced ((false, eval (.Constant (.str x) j p) X.env) :: backTo pos (starEach es X.env))) _ _ s
  refine Calls.spliced_cons (Calls.Constant_str ?_)
  exact thn (hr pos pins _ σ H _ (Nat.le_add_left 1 _) (I.tok _) h) fun us s2 ⟨xs, H2, I2, r2, q2⟩ => ⟨V.str x :: xs, H2, I2, .cons (show RelV (V.str x) _ from ⟨_, rfl⟩) r2, q2⟩
end
end L2

set_option maxRecDepth 100000
set_option maxHeartbeats 4000000
/-! text_of -/
namespace K6
open PySem hiding Tok code
open PySem.Spec PyProof.Rows GD K1
open L2 hiding rest
abbrev sTextOf : Stmt := topS 60
section
variable {P : Program} {w : World} {K : PySem.W.Frag} {mg : Str → Option Value} {base : Heap} {PN PV : Addr}
def spTextOf (PN : Addr) : L2.Sp := fun vs H Q _ => ∃ z : Str, vs = [.str z] ∧ z.length ≤ 5000 ∧ (Txt.partition z " ").1.length ≤ 5000 ∧ (Txt.partition z " ").2.2.length ≤ 5000 ∧ GxR.TabG H PN ∧
  (nameB (Txt.partition z " ").1 = false ∨ 600 < (Txt.partition z " ").2.2.length → ∀ H', Kp PN H H' → Q .non H') ∧
  (nameB (Txt.partition z " ").1 = true → (Txt.partition z " ").2.2.length ≤ 600 → ∀ H' r, Kp PN H H' → H' r = some (.tup [.str "text", .str (Txt.partition z " ").1, .str (Txt.replace (Txt.partition z " ").2.2 "|" "\n")]) → Q (.ref r) H')
theorem scTextOf : FnScope ["rest", "module", "_", "written"] ["rest"] (defScope sTextOf) := ⟨rfl, rfl, rfl, by decide +kernel, rfl, by decide +kernel, by decide +kernel⟩
theorem ok_textOf {f f1 : Addr} {fd fd1 : FuncData} (F : Fun K "text_of" "text_of" sTextOf f fd) (T : Txt K mg) (T3 : Txt K mg) (TM : ∃ t, mg "TEXT_MOST" = some (.int 600 t))
    (FN : FO P w K mg base CX0 1 "is_name" ["text"] (spName PN) f1 fd1) : FnOk P w K mg base CX0 2 f fd ["rest"] (spTextOf PN) := by
  have sc := scTextOf
  obtain ⟨t1, gTM⟩ := TM
  refine F.ok sc (fun vs H Q E h => ?_) (fun cdv A outer s H vs Q E hr h => ?_)
  · obtain ⟨z, rfl, _⟩ := h
    rfl
  · obtain ⟨z, rfl, hz, l1, l2, tb, q1, q2⟩ := h
    refine ⟨_, (pss_cons (ps_asg (pe_partition (pv 0) pe_str) (pg_tup rfl (pgs_cons (pg_name (i := 1) sc.nd rfl (Or.inl rfl)) (pgs_cons (pg_name (i := 2) sc.nd rfl (Or.inl rfl)) (pgs_cons (pg_name (i := 3) sc.nd rfl (Or.inl rfl)) pgs_nil)))))
      (pss_cons (ps_if (PW.pt (pw_or (pt_not (pt_val (pe_call FN.ok hr (by rfl) FN.m FN.kp FN.b .nil pass0 (pa_cons (pv 1) pa_nil)))) (pw_or1 (pt_cmpR op_gt (pe_callB call_len_str (by rfl) T.len (by decide +kernel) (pa_cons (pv 3) pa_nil)) (pe_gint rfl gTM) (nomark _)))))
      (pss_one (ps_ret pe_non))
      pss_nil)
      (pss_one (ps_ret (pe_tup (pa_strT (pat_cons (CwR.PET.of (pv 1)) (pat_cons (CwR.pet_replC (pv 3)) pat_nil)))))))), ?_⟩
    refine ⟨_, rfl, ⟨z, rfl⟩, z, _, rfl, rfl, by decide, szle hz, fun p np => ?_⟩
    refine ⟨p, _, rfl, SqT.of upd_same, rfl, ?_⟩
    refine ⟨_, _, rfl, _, _, rfl, _, _, rfl, rfl, ?_⟩
    refine ⟨_, rfl, _, rfl, l1, tab_same tb (Same.lst (Same.refl _) np), fun H1 k1 => ?_⟩
    have kk : Kp PN H H1 := ktrans (knew tb np) k1
    cases hn : nameB (Txt.partition z " ").1 with
    | false => exact ⟨_, rfl, q1 (.inl hn) _ kk⟩
    | true =>
      refine ⟨_, rfl, iteF ?_⟩
      refine ⟨_, rfl, _, rfl, szle l2, _, _, rfl, rfl, _, rfl, ite2 (fun h => ?_) (fun h => ?_)⟩
      · have h := of_decide_eq_true h
        exact q1 (.inr (by omega)) _ kk
      · have h6 : (Txt.partition z " ").2.2.length ≤ 600 := by
          have h7 : ¬ ((600 : Int) < ((Txt.partition z " ").2.2.length : Nat)) := fun x => h (decide_eq_true x)
          omega
        refine ⟨_, rfl, _, rfl, _, rfl, ?_, (show 3 ≤ sizeLine by decide), fun r nr => ?_⟩
        · have e1 : (Str.ofString "\n").length = 1 := rfl
          rw [e1]
          omega
        · exact q2 hn h6 _ r (ktrans kk (knew kk.1 nr)) upd_same
end
end K6

set_option maxRecDepth 100000
set_option maxHeartbeats 4000000
/-! _law_value_text -/
namespace K6
open PySem hiding Tok code
open PySem.Spec PyProof.Rows GD K1
open L2 hiding rest
section
variable {P : Program} {w : World} {K : PySem.W.Frag} {mg : Str → Option Value} {base : Heap}
end
end K6

set_option maxRecDepth 100000
set_option maxHeartbeats 4000000
/-! are_arguments of a list, values_of -/
namespace K6
open PySem hiding Tok code
open PySem.Spec PyProof.Rows GD K1
open L2 hiding rest
abbrev sValsOf : Stmt := topS 63
section
variable {P : Program} {w : World} {K : PySem.W.Frag} {mg : Str → Option Value} {base : Heap} {PN PV : Addr}
def spAreAL (PN PV : Addr) : L2.Sp := fun vs H Q _ => ∃ (ar : Addr) (ad : List AV), vs = [.ref ar] ∧ H ar = some (.lst (ad.map aV)) ∧ T2 PN PV H ∧ (∀ x ∈ ad, aS x) ∧ ∀ H', ST PN PV H H' → Q (.bl (argsB ad)) H'
theorem scAreAL : FnScope ["values", "value"] ["values"] (defScope sAreA) := ⟨rfl, rfl, rfl, by decide +kernel, rfl, by decide +kernel, by decide +kernel⟩
theorem ok_areAL {f f1 : Addr} {fd fd1 : FuncData} (F : Fun K "are_arguments" "are_arguments" sAreA f fd) (T : Txt K mg) (T3 : Txt K mg) (TA : ∃ t, mg "ARGUMENTS_MOST" = some (.int 3 t)) (ne : PN ≠ PV)
    (FV : FO P w K mg base CX0 2 "is_value" ["value"] (spValue PV) f1 fd1) : FnOk P w K mg base CX0 3 f fd ["values"] (spAreAL PN PV) := by
  have sc := scAreAL
  obtain ⟨t1, gAM⟩ := TA
  refine F.ok sc (fun vs H Q E h => ?_) (fun cdv A outer s H vs Q E hr h => ?_)
  · obtain ⟨ar, ad, rfl, _⟩ := h
    rfl
  · obtain ⟨ar, ad, rfl, ha, t2, sm, q⟩ := h
    refine ⟨_, (pss_one (ps_ret (pe_and (pe_cmpR op_le (pe_callB call_len_seq (by rfl) T.len (by decide +kernel) (pa_cons (pv 0) pa_nil)) (pe_gint rfl gAM) (nomark _)) (pe_one (pe_callB (cr_all rfl) (by rfl) T3.all (by decide +kernel) (pa_cons (pe_lc (own := [("value", 1)]) rfl sc.nd (pi_list (pv 0)) (blkOk_by (own := [("value", 1)]) (N := ["values", "value"]) (sc := defScope sAreA) (by decide +kernel)) (fun _ _ _ _ _ => (pg_name (i := 1) sc.nd rfl (Or.inl rfl))) (fun _ _ _ _ _ => pts_nil) (fun _ _ _ _ _ => (pe_call FV.ok hr (by rfl) FV.m FV.kp FV.b .nil pass0 (pa_cons (pv 1) pa_nil)))) pa_nil)))))), ?_⟩
    refine ⟨_, rfl, ar, _, rfl, .inl (SqL.of ha), _, _, rfl, rfl, _, rfl, ?_⟩
    rw [List.length_map]
    cases hl : decide (((ad.length : Nat) : Int) ≤ 3) with
    | false =>
      refine iteF ?_
      have e : argsB ad = false := by
        unfold argsB
        rw [decide_eq_false (by have := of_decide_eq_false hl; omega)]
        rfl
      rw [← e]
      exact q _ (t2.st (Same.refl H))
    | true =>
      have l3 : ad.length ≤ 3 := by have := of_decide_eq_true hl; omega
      refine iteT ?_
      refine ⟨_, rfl, ar, rfl, ⟨_, SqL.of ha⟩, fun l nl => ?_⟩
      refine lc_it (walk_list (K := K) (a := ar) (xs := ad.map aV)) (fun j H' => ST PN PV H H' ∧ H' l = some (.lst (((ad.take j).map aB).map V.bl))) ⟨t2.st (Same.lst (Same.refl _) nl), upd_same⟩ (fun i H' _ pv => SqL.of (pv.1.k _ _ (fun _ z => by cases z) ha)) (fun j x H2 H3 hj pv y => ?_) (fun H2 pv => ?_)
      · obtain ⟨rfl, hx⟩ := y
        rw [List.getElem?_map, Option.map_eq_some_iff] at hx
        obtain ⟨a, hi, rfl⟩ := hx
        obtain ⟨s2, el⟩ := pv
        have fin : ∀ H4, ST PN PV H3 H4 → ∃ acc : List V, H4 l = some (.lst acc) ∧ acc.length < sizeLine ∧ ST PN PV H (upd H4 l (.lst (acc ++ [V.bl (aB a)]))) ∧ (upd H4 l (.lst (acc ++ [V.bl (aB a)]))) l = some (.lst (((ad.take (j + 1)).map aB).map V.bl)) := fun H4 s4 => by
          have e4 := s4.k _ _ (fun _ z => by cases z) el
          refine ⟨_, e4, ?_, (s2.trans s4).wr nl e4, ?_⟩
          · rw [List.length_map, List.length_map, List.length_take]
            exact szlt (by omega)
          · rw [upd_same, List.take_add_one, hi, List.map_append, List.map_append]
            rfl
        refine ⟨rfl, _, rfl, ?_⟩
        have sa := sm a (List.mem_of_getElem? hi)
        cases a with
        | s z => exact .inl ⟨z, rfl, sa, s2.t.v, fun H4 kp => fin H4 (s2.t.kpV ne kp)⟩
        | i n => exact .inr ⟨n, rfl, fin H3 (s2.t.st (Same.refl _))⟩
      · have lv : (ad.map aV).length = ad.length := List.length_map _
        rw [lv, List.take_length] at pv
        refine ⟨l, ad.map aB, rfl, SqL.of pv.2, ?_⟩
        have e : argsB ad = (ad.map aB).all id := by
          unfold argsB
          rw [decide_eq_true l3, Bool.true_and, List.all_map]
          rfl
        rw [← e]
        exact q _ pv.1

/-- the values of tokens, the sign ahead of the first one -/
def mkAV : Int → List K1.Tok → List AV
  | _, [] => []
  | g, .num n :: r => .i (g * n) :: mkAV 1 r
  | _, .str l :: r => .s (S l) :: mkAV 1 r
  | _, .word _ :: r => mkAV 1 r
  | _, .sign _ :: r => mkAV (-1) r
def sgnA : Int → List K1.Tok → Int
  | g, [] => g
  | _, .sign _ :: r => sgnA (-1) r
  | _, _ :: r => sgnA 1 r
theorem mkAV_app : ∀ (a : List K1.Tok) (g : Int) (b : List K1.Tok), mkAV g (a ++ b) = mkAV g a ++ mkAV (sgnA g a) b
  | [], _, _ => rfl
  | .num n :: r, g, b => by show _ :: mkAV 1 (r ++ b) = _; rw [mkAV_app r]; rfl
  | .str l :: r, g, b => by show _ :: mkAV 1 (r ++ b) = _; rw [mkAV_app r]; rfl
  | .word _ :: r, g, b => by show mkAV 1 (r ++ b) = _; rw [mkAV_app r]; rfl
  | .sign _ :: r, g, b => by show mkAV (-1) (r ++ b) = _; rw [mkAV_app r]; rfl
theorem sgnA_app : ∀ (a : List K1.Tok) (g : Int) (b : List K1.Tok), sgnA g (a ++ b) = sgnA (sgnA g a) b
  | [], _, _ => rfl
  | .num n :: r, g, b => sgnA_app r 1 b
  | .str l :: r, g, b => sgnA_app r 1 b
  | .word _ :: r, g, b => sgnA_app r 1 b
  | .sign _ :: r, g, b => sgnA_app r (-1) b
theorem sgnA_one : ∀ (a : List K1.Tok) (g : Int), g = 1 ∨ g = -1 → sgnA g a = 1 ∨ sgnA g a = -1
  | [], _, h => h
  | .num n :: r, g, _ => sgnA_one r 1 (.inl rfl)
  | .str l :: r, g, _ => sgnA_one r 1 (.inl rfl)
  | .word _ :: r, g, _ => sgnA_one r 1 (.inl rfl)
  | .sign _ :: r, g, _ => sgnA_one r (-1) (.inr rfl)
theorem mkAV_len : ∀ (a : List K1.Tok) (g : Int), (mkAV g a).length ≤ a.length
  | [], _ => Nat.le_refl _
  | .num n :: r, g => by have := mkAV_len r 1; show (mkAV 1 r).length + 1 ≤ r.length + 1; omega
  | .str l :: r, g => by have := mkAV_len r 1; show (mkAV 1 r).length + 1 ≤ r.length + 1; omega
  | .word _ :: r, g => by have := mkAV_len r 1; show (mkAV 1 r).length ≤ r.length + 1; omega
  | .sign _ :: r, g => by have := mkAV_len r (-1); show (mkAV (-1) r).length ≤ r.length + 1; omega
/-- what tokens of a line are like -/
def tokSm : K1.Tok → Prop
  | .num n => n < 100000
  | .str l => l.length ≤ 20
  | _ => True
theorem lexC_sm {c : Nat} {r : List Nat} {t : K1.Tok} {k : Nat} (h : lexC c r = some (t, k)) : tokSm t := by
  unfold lexC at h
  by_cases h1 : c ∈ LET
  · rw [if_pos h1] at h
    split at h
    · cases h
      exact trivial
    · cases h
  rw [if_neg h1] at h
  by_cases h2 : c ∈ DIG
  · rw [if_pos h2] at h
    split at h
    · rename_i h3
      cases h
      exact val_small (fun c hc => mem_run hc) (by rw [List.length_take]; omega)
    · cases h
  rw [if_neg h2] at h
  by_cases h3 : c = 34
  · rw [if_pos h3] at h
    split at h
    · rename_i hk
      cases h
      show (r.take _).length ≤ 20
      rw [List.length_take]
      omega
    · cases h
  rw [if_neg h3] at h
  split at h
  · cases h
    exact trivial
  · cases h
theorem lex_sm {l : List Nat} {o : Option (List K1.Tok)} (h : Lex l o) : ∀ ts, o = some ts → (∀ t ∈ ts, tokSm t) ∧ ts.length ≤ l.length := by
  induction h with
  | nil =>
    intro ts e
    cases e
    exact ⟨fun t h => (nomatch h), Nat.le_refl _⟩
  | sp _ ih => exact fun ts e => ⟨(ih ts e).1, Nat.le_succ_of_le (ih ts e).2⟩
  | bad _ _ => exact fun ts e => nomatch e
  | @tok c r t k o _ e h2 ih =>
    intro ts he
    cases o with
    | none => cases he
    | some x =>
      cases he
      obtain ⟨i1, i2⟩ := ih x rfl
      have kp := lexC_pos e
      rw [List.length_drop] at i2
      refine ⟨fun u hu => ?_, ?_⟩
      · rcases List.mem_cons.mp hu with rfl | hu
        · exact lexC_sm e
        · exact i1 u hu
      · have kl := lexC_le e
        show x.length + 1 ≤ _
        rw [List.length_cons] at i2 ⊢
        omega
theorem mkAV_sm : ∀ (a : List K1.Tok) (g : Int), (∀ t ∈ a, tokSm t) → ∀ x ∈ mkAV g a, aS x
  | [], _, _, _, h => by cases h
  | .num n :: r, g, hs, x, h => by
    rcases List.mem_cons.mp h with rfl | h
    · exact trivial
    · exact mkAV_sm r 1 (fun t ht => hs t (List.mem_cons_of_mem _ ht)) x h
  | .str l :: r, g, hs, x, h => by
    rcases List.mem_cons.mp h with rfl | h
    · have : l.length ≤ 20 := hs _ List.mem_cons_self
      show (S l).length ≤ 5000
      rw [S_len]
      omega
    · exact mkAV_sm r 1 (fun t ht => hs t (List.mem_cons_of_mem _ ht)) x h
  | .word _ :: r, g, hs, x, h => mkAV_sm r 1 (fun t ht => hs t (List.mem_cons_of_mem _ ht)) x h
  | .sign _ :: r, g, hs, x, h => mkAV_sm r (-1) (fun t ht => hs t (List.mem_cons_of_mem _ ht)) x h
structure TB (mg : Str → Option Value) : Prop where
  btuple : mg "tuple" = none
  bset : mg "set" = none
theorem tokL_len {H : Hp} {vs : List V} {ts : List K1.Tok} (h : TokL H vs ts) : ts.length = vs.length := by
  induction h with
  | nil => rfl
  | cons _ _ ih => rw [List.length_cons, List.length_cons, ih]
theorem tokL_get {H : Hp} {vs : List V} {ts : List K1.Tok} (h : TokL H vs ts) : ∀ {i : Nat} {x : V}, vs[i]? = some x → ∃ t, ts[i]? = some t ∧ ∃ q, x = .ref q ∧ H q = some (.tup (tokV t)) := by
  induction h with
  | nil => exact fun h => by simp at h
  | @cons a b l m r _ ih =>
    intro i x hx
    cases i with
    | zero => cases hx; exact ⟨b, rfl, r⟩
    | succ i => exact ih (i := i) hx
def spValsOf (PN PV : Addr) : L2.Sp := fun vs H Q _ => ∃ (L : List Nat) (o : Option (List K1.Tok)), vs = [.str (S L)] ∧ L.length ≤ 5000 ∧ T2 PN PV H ∧ Lex L o ∧
  ∀ H', ST PN PV H H' → ((o = none ∨ ∃ ts, o = some ts ∧ argsB (mkAV 1 ts) = false) → Q .non H') ∧
    ∀ ts r, o = some ts → argsB (mkAV 1 ts) = true → H' r = some (.tup ((mkAV 1 ts).map aV)) → Q (.ref r) H'
theorem scValsOf : FnScope ["text", "tokens", "values", "sign", "kind", "content"] ["text"] (defScope sValsOf) := ⟨rfl, rfl, rfl, by decide +kernel, rfl, by decide +kernel, by decide +kernel⟩
theorem ok_valsOf {f f1 f2 : Addr} {fd fd1 fd2 : FuncData} (F : Fun K "values_of" "values_of" sValsOf f fd) (T : Txt K mg) (T2 : TB mg) (ne : PN ≠ PV)
    (FS : FO P w K mg base CX0 5 "split" ["line"] (spSplit PV) f1 fd1) (FA : FO P w K mg base CX0 3 "are_arguments" ["values"] (spAreAL PN PV) f2 fd2) : FnOk P w K mg base CX0 6 f fd ["text"] (spValsOf PN PV) := by
  have sc := scValsOf
  have T3 := T
  refine F.ok sc (fun vs H Q E h => ?_) (fun cdv A outer s H vs Q E hr h => ?_)
  · obtain ⟨L, o, rfl, _⟩ := h
    rfl
  · obtain ⟨L, o, rfl, hl, t2, lx, q⟩ := h
    refine ⟨_, (pss_cons (ps_set (i := 1) sc.nd rfl (Or.inl rfl) (pe_call FS.ok hr (by rfl) FS.m FS.kp FS.b .nil pass0 (pa_cons (pv 0) pa_nil)))
      (pss_cons (ps_if (pt_cmpR op_isN (pv 1) pe_non (nomark _))
      (pss_one (ps_ret pe_non))
      pss_nil)
      (pss_cons (ps_set (i := 2) sc.nd rfl (Or.inl rfl) (pe_lst pa_nil))
      (pss_cons (ps_set (i := 3) sc.nd rfl (Or.inl rfl) pe_int)
      (pss_cons (ps_for PassesOwn.never rfl (pi_list (pv 1)) (pg_tup rfl (pgs_cons (pg_name (i := 4) sc.nd rfl (Or.inl rfl)) (pgs_cons (pg_name (i := 5) sc.nd rfl (Or.inl rfl)) pgs_nil)))
      (pss_cons (ps_if (pt_cmpR op_eq (pv 4) pe_str (nomark _))
      (pss_one (ps_expr (pe_bm PySem.F.plainAttrs_list PySem.F.slot_list_append PySem.F.type_list_append mt_append (pv 2) (pa_cons (pe_op op_mul (pv 3) (pv 5)) pa_nil))))
      (pss_one (ps_if (pt_cmpR op_eq (pv 4) pe_str (nomark _))
      (pss_one (ps_expr (pe_bm PySem.F.plainAttrs_list PySem.F.slot_list_append PySem.F.type_list_append mt_append (pv 2) (pa_cons (pv 5) pa_nil))))
      pss_nil)))
      (pss_one (ps_set (i := 3) sc.nd rfl (Or.inl rfl) (pe_ifExp (pt_cmpR op_eq (pv 4) pe_str (nomark _)) (pe_un un_neg pe_int) pe_int)))))
      (pss_one (ps_ret (pe_ifExp (pt_val (pe_call FA.ok (hr.mono (by decide)) (by rfl) FA.m FA.kp FA.b .nil pass0 (pa_cons (pv 2) pa_nil))) (pe_callTy call_tuple_of (by rfl) T2.btuple (by decide +kernel) (pa_cons (pv 2) pa_nil)) pe_non)))))))), ?_⟩
    refine ⟨_, rfl, L, o, rfl, hl, t2.v, lx, fun H1 k1 => ?_⟩
    have s1 := t2.kpV ne k1
    refine ⟨fun eo => ?_, fun ts D vs eo nD hD tl => ?_⟩
    · refine ⟨_, rfl, rfl, _, rfl, iteT ?_⟩
      exact (q _ s1).1 (.inl eo)
    refine ⟨_, rfl, rfl, _, rfl, iteF ?_⟩
    obtain ⟨tsm, tln⟩ := lex_sm lx ts eo
    have lvs := tokL_len tl
    refine ⟨Nat.zero_le _, fun D2 nV => ?_⟩
    have nV0 : H D2 = none := by
      cases e : H D2 with
      | none => rfl
      | some ob =>
        by_cases hp : D2 = PV
        · obtain ⟨ps, e1, _⟩ := k1.1
          rw [hp, e1] at nV
          cases nV
        · rw [k1.2 _ _ hp e] at nV
          cases nV
    have kD : D ≠ D2 := fun z => by rw [z, nV] at hD; cases hD
    refine ⟨_, rfl, D, rfl, ⟨_, SqL.of (by rw [upd_ne kD]; exact hD)⟩, for_list (K := K) (a := D) (xs := vs) (fun i σ H' => ∃ (y4 y5 : Option V), σ = [some (.str (S L)), some (.ref D), some (.ref D2), some (.int (sgnA 1 (ts.take i))), y4, y5] ∧ ST PN PV H1 H' ∧ H' D2 = some (.lst ((mkAV 1 (ts.take i)).map aV))) ⟨none, none, rfl, s1.t.st (Same.lst (Same.refl _) nV), upd_same⟩ (fun i σ H' _ hI => ?_) (fun i x σ H' hx hI => ?_) (fun σ H' hI => ?_)⟩
    · obtain ⟨y4, y5, rfl, s2, eV⟩ := hI
      exact SqL.of (s2.k _ _ (fun _ z => by cases z) hD)
    · obtain ⟨y4, y5, rfl, s2, eV⟩ := hI
      obtain ⟨t, ht, q0, rfl, hq0⟩ := tokL_get tl hx
      have e0 := s2.k _ _ (fun _ z => by cases z) hq0
      have tk : ts.take (i + 1) = ts.take i ++ [t] := by rw [List.take_add_one, ht]; rfl
      have sz : ((mkAV 1 (ts.take i)).map aV).length < sizeLine := by
        rw [List.length_map]
        have := mkAV_len (ts.take i) 1
        rw [List.length_take] at this
        exact szlt (by omega)
      have go : ∀ (a : AV), mkAV (sgnA 1 (ts.take i)) [t] = [a] → ST PN PV H1 (upd H' D2 (.lst ((mkAV 1 (ts.take i)).map aV ++ [aV a]))) ∧ (upd H' D2 (.lst ((mkAV 1 (ts.take i)).map aV ++ [aV a]))) D2 = some (.lst ((mkAV 1 (ts.take (i + 1))).map aV)) := fun a ha => by
        refine ⟨s2.wr nV eV, ?_⟩
        rw [upd_same, tk, mkAV_app, ha, List.map_append]
        rfl
      have go2 : mkAV (sgnA 1 (ts.take i)) [t] = [] → (mkAV 1 (ts.take (i + 1))) = mkAV 1 (ts.take i) := fun ha => by rw [tk, mkAV_app, ha, List.append_nil]
      refine ⟨q0, _, rfl, .inl (.inl e0), ?_⟩
      have tl1 : sgnA 1 (ts.take (i + 1)) = sgnA (sgnA 1 (ts.take i)) [t] := by rw [tk, sgnA_app]
      have s1' := sgnA_one (ts.take i) 1 (.inl rfl)
      cases t with
      | num n =>
        refine ⟨rfl, _, _, rfl, _, _, rfl, rfl, ?_⟩
        refine ⟨_, rfl, rfl, _, rfl, iteT ?_⟩
        refine ⟨_, rfl, .inl ⟨rfl, _, SqL.of eV⟩, ⟨_, rfl, _, rfl, _, _, rfl, rfl, .inl ⟨by omega, by omega⟩, D2, _, _, rfl, rfl, eV, sz, ?_⟩⟩
        obtain ⟨g1, g2⟩ := go (.i (sgnA 1 (ts.take i) * n)) rfl
        refine ⟨_, rfl, rfl, _, rfl, iteF ?_⟩
        exact ⟨_, _, by rw [tl1]; rfl, g1, g2⟩
      | str l =>
        refine ⟨rfl, _, _, rfl, _, _, rfl, rfl, ?_⟩
        refine ⟨_, rfl, rfl, _, rfl, iteF ?_⟩
        refine ⟨_, rfl, rfl, _, rfl, iteT ?_⟩
        refine ⟨_, rfl, .inl ⟨rfl, _, SqL.of eV⟩, _, rfl, D2, _, _, rfl, rfl, eV, sz, ?_⟩
        obtain ⟨g1, g2⟩ := go (.s (S l)) rfl
        refine ⟨_, rfl, rfl, _, rfl, iteF ?_⟩
        exact ⟨_, _, by rw [tl1]; rfl, g1, g2⟩
      | word l =>
        refine ⟨rfl, _, _, rfl, _, _, rfl, rfl, ?_⟩
        refine ⟨_, rfl, rfl, _, rfl, iteF ?_⟩
        refine ⟨_, rfl, rfl, _, rfl, iteF ?_⟩
        refine ⟨_, rfl, rfl, _, rfl, iteF ?_⟩
        exact ⟨_, _, by rw [tl1]; rfl, s2, by rw [go2 rfl]; exact eV⟩
      | sign c =>
        refine ⟨rfl, _, _, rfl, _, _, rfl, rfl, ?_⟩
        refine ⟨_, rfl, rfl, _, rfl, iteF ?_⟩
        refine ⟨_, rfl, rfl, _, rfl, iteF ?_⟩
        refine ⟨_, rfl, rfl, _, rfl, iteT ?_⟩
        exact ⟨_, rfl, _, _, by rw [tl1]; rfl, s2, by rw [go2 rfl]; exact eV⟩
    · obtain ⟨y4, y5, rfl, s2, eV⟩ := hI
      rw [← lvs, List.take_length] at eV
      refine ⟨_, rfl, D2, mkAV 1 ts, rfl, eV, s2.t, mkAV_sm ts 1 tsm, fun H2 s3 => ?_⟩
      have s4 := s1.trans (s2.trans s3)
      have eV2 := s3.k _ _ (fun _ z => by cases z) eV
      cases hb : argsB (mkAV 1 ts) with
      | false => exact ⟨_, rfl, iteF ((q _ s4).1 (.inr ⟨ts, eo, hb⟩))⟩
      | true =>
        refine ⟨_, rfl, iteT ?_⟩
        refine ⟨_, rfl, D2, _, rfl, .inl ⟨SqL.of eV2, fun l nl => ?_⟩⟩
        exact (q _ (s4.trans (s3.t.st (Same.lst (Same.refl _) nl)))).2 ts l eo hb upd_same
end
end K6

set_option maxRecDepth 100000
set_option maxHeartbeats 4000000
/-! splitting at one sign, as lists of signs; o[3] lifts the count of tokens -/
namespace L2
open PySem hiding Tok code
open PySem.Spec PyProof.Rows
section
variable {X : Cx} {es : List Expr} {t : TA} {r : R2} {a : Expr} {ta : TE}
/-- behind o[3] the count of tokens isn't 0 -/
theorem pa_ixT {i : Int} {j : Nat} {p pos : Pos} (hr : IxR X r) (ha : PE X a ta) (he : PAT X es t) (hs : PlainIx (.Constant (.int i) j p))
    (hst : starEach (.Subscript a (.Constant (.int i) j p) pos :: es) X.env = (false, eval (.Subscript a (.Constant (.int i) j p) pos) X.env) :: starEach es X.env := by rfl) :
    PA X (.Subscript a (.Constant (.int i) j p) pos :: es) (tCons (tOp r ta (tC (.int i))) t) := by
  refine ⟨fun pos' pins s σ H Q I h => ?_⟩
  rw [hst]
  show wpAny _ _ (spliced ((false, eval (.Subscript a (.Constant (.int i) j p) pos) X.env) :: backTo pos' (starEach es X.env))) _ _ s
  refine Calls.spliced_cons (Subscript_ (thn (ha.run pins s σ H _ I h) fun v s1 ⟨x, H1, I1, r1, q1⟩ => ?_))
  refine wpAny_Constant_int ?_
  refine wpAny_mono (PySem.wpAny_toks (hr a _ pins _ σ H1 x (.int i) v _ _ (I1.tok _) r1 ⟨_, rfl⟩ q1 (hs _ _))) (fun w s2 q => ?_) fun _ _ z => z.2
  obtain ⟨hk, y, H2, I2, r2, q2⟩ := q
  exact thn (he pos' pins s2 σ H2 _ (Nat.le_trans (Nat.le_add_left 1 _) hk) I2 q2) fun us s3 ⟨xs, H3, I3, r3, q3⟩ => ⟨y :: xs, H3, I3, .cons r2 r3, q3⟩
end
end L2
namespace K6
open PySem hiding Tok code
open PySem.Spec PyProof.Rows GD K1
open L2 hiding rest
open Builtin Builtin.Str StrLaws
/-- where the sign stands, at most so many times, the list beginning at the place cur -/
def occs (c : Nat) : Nat → List Nat → Nat → List Nat
  | _, [], _ => []
  | _, _ :: _, 0 => []
  | cur, d :: r, k + 1 => if d = c then cur :: occs c (cur + 1) r k else occs c (cur + 1) r (k + 1)
theorem occs_zero (c : Nat) : ∀ (cur : Nat) (l : List Nat), occs c cur l 0 = []
  | _, [] => rfl
  | _, _ :: _ => rfl
theorem occs_cons (c cur d : Nat) (r : List Nat) (k : Nat) : occs c cur (d :: r) (k + 1) = if d = c then cur :: occs c (cur + 1) r k else occs c (cur + 1) r (k + 1) := rfl
theorem occ_all (x : Str) (c lim : Nat) : ∀ (m cur : Nat) (fd : Array Nat) (free : Nat), free ≤ cur → cur + m = x.length + 1 →
    (forIn (List.range' cur m) (fd, free) (occBody x ⟨#[c]⟩ x.length lim)).run.fst.toList = fd.toList ++ occs c cur (x.cps.toList.drop cur) (lim - fd.size)
  | 0, cur, fd, free, h, e => by
    have xl : x.length = x.cps.toList.length := by show x.cps.size = _; simp
    rw [List.drop_of_length_le (by omega)]
    show fd.toList = fd.toList ++ occs c cur [] _
    unfold occs
    rw [List.append_nil]
  | m + 1, cur, fd, free, h, e => by
    have xl : x.length = x.cps.toList.length := by show x.cps.size = _; simp
    rw [List.range'_succ, List.forIn_cons]
    unfold occBody
    by_cases hc : x.cps.toList[cur]? = some c
    · have q := (subAt_one x c cur).mpr hc
      have lt := (List.getElem?_eq_some_iff.mp hc).1
      have ed : x.cps.toList.drop cur = c :: x.cps.toList.drop (cur + 1) := by
        rw [List.drop_eq_getElem_cons lt, (List.getElem?_eq_some_iff.mp hc).2]
      by_cases hs : fd.size < lim
      · rw [if_pos ⟨⟨⟨hs, h⟩, q.1⟩, q.2⟩]
        obtain ⟨k, hk⟩ : ∃ k, lim - fd.size = k + 1 := ⟨lim - fd.size - 1, by omega⟩
        have ih := occ_all x c lim m (cur + 1) (fd.push cur) (cur + 1) (Nat.le_refl _) (by omega)
        refine Eq.trans ih ?_
        rw [ed, hk, occs_cons, if_pos rfl, Array.toList_push, Array.size_push, List.append_assoc]
        have e2 : lim - (fd.size + 1) = k := by omega
        rw [e2]
        rfl
      · rw [if_neg (fun z => hs z.1.1.1)]
        have ih := occ_all x c lim m (cur + 1) fd free (by omega) (by omega)
        refine Eq.trans ih ?_
        have e2 : lim - fd.size = 0 := by omega
        rw [e2, occs_zero, occs_zero]
    · rw [if_neg (fun z => hc ((subAt_one x c cur).mp ⟨z.1.2, z.2⟩))]
      have ih := occ_all x c lim m (cur + 1) fd free (by omega) (by omega)
      refine Eq.trans ih ?_
      by_cases lt : cur < x.cps.toList.length
      · rw [List.drop_eq_getElem_cons lt]
        have nc : x.cps.toList[cur] ≠ c := fun z => hc (by rw [List.getElem?_eq_getElem lt, z])
        cases hk : lim - fd.size with
        | zero => rw [occs_zero, occs_zero]
        | succ k =>
          rw [occs_cons, if_neg nc]
      · rw [List.drop_of_length_le (by omega), List.drop_of_length_le (by omega)]
        rfl
theorem occ_one (x : Str) (c lim : Nat) : occurrences x ⟨#[c]⟩ 0 x.length lim = occs c 0 x.cps.toList lim := by
  rw [occ_eq]
  have := occ_all x c lim (x.length + 1 - 0) 0 #[] 0 (Nat.le_refl _) (by omega)
  rw [List.drop_zero] at this
  exact this
/-- cut at the sign, at most so many times -/
def spl (c : Nat) : Nat → List Nat → List Nat → List (List Nat)
  | _, [], acc => [acc]
  | 0, d :: r, acc => [acc ++ d :: r]
  | k + 1, d :: r, acc => if d = c then acc :: spl c k r [] else spl c (k + 1) r (acc ++ [d])
theorem sub_list (L : List Nat) (a b : Nat) : strSub (S L) a b = S ((L.drop a).take (b - a)) := by
  apply Str.ext'
  apply Array.toList_inj.mp
  rw [strSub_toList]
  rfl
theorem parts_spl (L : List Nat) (c : Nat) : ∀ (r : List Nat) (k a : Nat) (acc : List Nat), L.drop a = acc ++ r →
    partsFrom (S L) 1 a (occs c (a + acc.length) r k) = (spl c k r acc).map S
  | [], k, a, acc, h => by
    unfold occs spl
    show [strSub (S L) a (S L).length] = [S acc]
    rw [sub_list, h, List.append_nil, S_len]
    have : acc.length = L.length - a := by rw [← List.length_drop, h, List.append_nil]
    rw [← this, List.take_length]
  | d :: r, 0, a, acc, h => by
    unfold occs spl
    show [strSub (S L) a (S L).length] = [S _]
    rw [sub_list, h, S_len]
    have : (acc ++ d :: r).length = L.length - a := by rw [← List.length_drop, h]
    rw [← this, List.take_length]
  | d :: r, k + 1, a, acc, h => by
    unfold occs spl
    by_cases hd : d = c
    · rw [if_pos hd, if_pos hd]
      have h2 : L.drop (a + acc.length + 1) = [] ++ r := by
        rw [Nat.add_assoc, ← List.drop_drop, h]
        rw [show acc ++ d :: r = (acc ++ [d]) ++ r by rw [List.append_assoc]; rfl]
        exact List.drop_left' (by rw [List.length_append]; rfl)
      have ih := parts_spl L c r k (a + acc.length + 1) [] h2
      show strSub (S L) a (a + acc.length) :: partsFrom (S L) 1 (a + acc.length + 1) _ = S acc :: _
      rw [List.length_nil, Nat.add_zero] at ih
      rw [ih, sub_list, h, show a + acc.length - a = acc.length by omega, List.take_left' rfl]
    · rw [if_neg hd, if_neg hd]
      have ih := parts_spl L c r (k + 1) a (acc ++ [d]) (by rw [h, List.append_assoc]; rfl)
      rw [List.length_append] at ih
      exact ih
theorem kind_one {L : List Nat} {c : Nat} (hc : c < 256) : decide (Builtin.Str.strKind (S L) < Builtin.Str.strKind ⟨#[c]⟩) = false := by
  refine decide_eq_false ?_
  have e : Builtin.Str.strKind ⟨#[c]⟩ = 1 := by
    unfold Builtin.Str.strKind
    rw [if_pos]
    simp [hc]
  rw [e]
  unfold Builtin.Str.strKind
  split
  · omega
  split <;> omega
theorem spl_nil_occ {c : Nat} : ∀ (r : List Nat) (k cur : Nat) (acc : List Nat), occs c cur r k = [] → spl c k r acc = [acc ++ r]
  | [], k, cur, acc, _ => by unfold spl; rw [List.append_nil]
  | d :: r, 0, cur, acc, _ => rfl
  | d :: r, k + 1, cur, acc, h => by
    unfold occs at h
    by_cases hd : d = c
    · rw [if_pos hd] at h
      cases h
    · rw [if_neg hd] at h
      unfold spl
      rw [if_neg hd, spl_nil_occ r (k + 1) (cur + 1) (acc ++ [d]) h, List.append_assoc]
      rfl
theorem splitMax_list (L : List Nat) {c : Nat} (hc : c < 256) (n : Nat) : Txt.splitMax (S L) ⟨#[c]⟩ (n : Nat) = (spl c n L []).map S := by
  unfold Txt.splitMax
  rw [kind_one hc, Bool.or_false]
  have el : limitOf (S L) (n : Nat) = n := by
    unfold limitOf
    rw [if_neg (by omega)]
    rfl
  by_cases h0 : (S L).length < (⟨#[c]⟩ : Str).length
  · rw [if_pos (decide_eq_true h0)]
    rw [S_len] at h0
    have : L = [] := List.length_eq_zero_iff.mp (by
      have : (⟨#[c]⟩ : Str).length = 1 := rfl
      omega)
    subst this
    cases n <;> rfl
  · rw [if_neg (fun z => h0 (of_decide_eq_true z)), el, occ_one]
    show (if (occs c 0 L n).isEmpty = true then _ else _) = _
    split
    · rename_i he
      rw [spl_nil_occ L n 0 [] (List.isEmpty_iff.mp he)]
      rfl
    · rw [partsBetween_eq]
      have := parts_spl L c L n 0 [] rfl
      rw [List.length_nil, Nat.add_zero] at this
      exact this
theorem split_list (L : List Nat) {c : Nat} (hc : c < 256) : Txt.split (S L) ⟨#[c]⟩ = (spl c (L.length + 1) L []).map S := by
  unfold Txt.split
  rw [kind_one hc, Bool.or_false, S_len]
  by_cases h0 : L.length < (⟨#[c]⟩ : Str).length
  · rw [if_pos (decide_eq_true h0)]
    have : L = [] := List.length_eq_zero_iff.mp (by
      have : (⟨#[c]⟩ : Str).length = 1 := rfl
      omega)
    subst this
    rfl
  · rw [if_neg (fun z => h0 (of_decide_eq_true z))]
    have e1 := occ_one (S L) c (L.length + 1)
    rw [S_len] at e1
    rw [e1]
    show (if (occs c 0 L (L.length + 1)).isEmpty = true then _ else _) = _
    split
    · rename_i he
      rw [spl_nil_occ L _ 0 [] (List.isEmpty_iff.mp he)]
      rfl
    · rw [partsBetween_eq]
      have := parts_spl L c L (L.length + 1) 0 [] rfl
      rw [List.length_nil, Nat.add_zero] at this
      exact this
/-- the parts before and behind the first sign -/
def parL (c : Nat) (L : List Nat) : List Nat × List Nat := match spl c 1 L [] with
  | [a, b] => (a, b)
  | _ => (L, [])
theorem spl_one (c : Nat) : ∀ (r acc : List Nat), spl c 1 r acc = if c ∈ r then [acc ++ r.takeWhile (· != c), r.drop ((r.takeWhile (· != c)).length + 1)] else [acc ++ r]
  | [], acc => by unfold spl; rw [if_neg (by simp), List.append_nil]
  | d :: r, acc => by
    unfold spl
    by_cases hd : d = c
    · subst hd
      rw [if_pos rfl, if_pos List.mem_cons_self, List.takeWhile_cons]
      simp only [bne_self_eq_false, Bool.false_eq_true, if_false, List.append_nil, List.length_nil, Nat.zero_add, List.drop_succ_cons, List.drop_zero]
      cases r <;> rfl
    · rw [if_neg hd, spl_one c r]
      by_cases hr : c ∈ r
      · rw [if_pos hr, if_pos (List.mem_cons_of_mem _ hr), List.takeWhile_cons, if_pos (by simpa using hd), List.append_assoc]
        rfl
      · rw [if_neg hr, if_neg (fun z => (List.mem_cons.mp z).elim (fun z => hd z.symm) hr), List.append_assoc]
        rfl
theorem partition_list (L : List Nat) {c : Nat} : (Txt.partition (S L) ⟨#[c]⟩).1 = S (parL c L).1 ∧ (Txt.partition (S L) ⟨#[c]⟩).2.2 = S (parL c L).2 := by
  have e := occ_one (S L) c 1
  have p := parts_spl L c L 1 0 [] rfl
  rw [List.length_nil, Nat.add_zero] at p
  unfold Txt.partition parL
  rw [e]
  rw [show (S L).cps.toList = L from rfl]
  cases ho : occs c 0 L 1 with
  | nil =>
    rw [spl_nil_occ L 1 0 [] ho]
    exact ⟨rfl, rfl⟩
  | cons i r =>
    have hr : r = [] := by
      have : ∀ (l : List Nat) (cur : Nat), ∀ i r, occs c cur l 1 = i :: r → r = [] := fun l => by
        induction l with
        | nil => exact fun cur i r h => by unfold occs at h; cases h
        | cons d l ih =>
          intro cur i r h
          unfold occs at h
          by_cases hd : d = c
          · rw [if_pos hd, occs_zero] at h
            cases h
            rfl
          · rw [if_neg hd] at h
            exact ih _ _ _ h
      exact this L 0 i r ho
    subst hr
    rw [ho] at p
    have p : [strSub (S L) 0 i, strSub (S L) (i + 1) (S L).length] = (spl c 1 L []).map S := p
    rcases hs : spl c 1 L [] with _ | ⟨a, _ | ⟨b, _ | ⟨d, m⟩⟩⟩
    · rw [hs] at p; exact absurd (congrArg List.length p) (by simp)
    · rw [hs] at p; exact absurd (congrArg List.length p) (by simp)
    · rw [hs] at p
      injection p with p1 p2
      injection p2 with p2 _
      exact ⟨p1, p2⟩
    · rw [hs] at p; exact absurd (congrArg List.length p) (by simp)
theorem repl_list (L : List Nat) (a b : Nat) : Txt.replace (S L) ⟨#[a]⟩ ⟨#[b]⟩ = S (L.map fun d => if d = a then b else d) := by
  apply Str.ext'
  apply Array.toList_inj.mp
  rw [replace_list (x := S L) (y := ⟨#[a]⟩) (z := ⟨#[b]⟩) (Nat.le_refl 1)]
  show replL [a] [b] L = L.map _
  induction L with
  | nil => exact replL_nil
  | cons d r ih =>
    by_cases hd : d = a
    · subst hd
      rw [replL_hit (by simp) rfl, List.map_cons, if_pos rfl]
      show [b] ++ replL _ _ r = _
      rw [ih]
      rfl
    · rw [replL_miss (by show ¬ [d] = [a]; simpa using hd), List.map_cons, if_neg hd, ih]
end K6

set_option maxRecDepth 100000
set_option maxHeartbeats 4000000
/-! records; write_record -/
namespace K6
open PySem hiding Tok code
open PySem.Spec PyProof.Rows GD K1
open L2 hiding rest
abbrev sWRec : Stmt := topS 56
theorem call_str_any {X : Cx} : CallR X (.type "str") (fun xs H Q => (∃ i, xs = [.int i] ∧ i.natAbs.log2 < 1920 ∧ Q (.str (toString i)) H) ∨ ∃ a, xs = [.str a] ∧ Q (.str a) H) := by
  intro pins s σ H xs us Q I r h
  exact h.elim (fun h => call_str_int pins s σ H xs us Q I r h) (fun h => SkE.call_str_str pins s σ H xs us Q I r h)
inductive Rec
  | ent (xs : List Str) | txt (m t : Str) | rem (m : Str) | upd (n : Nat) | call (h n : Nat) (m f : Str) (ad : List AV)
def recV (a : Addr) : Rec → List V
  | .ent _ => [.str "entries", .ref a]
  | .txt m t => [.str "text", .str m, .str t]
  | .rem m => [.str "remove", .str m]
  | .upd n => [.str "update", .int n]
  | .call h n m f _ => [.str "call", .int h, .int n, .str m, .str f, .ref a]
def recA : Rec → Option (List V)
  | .ent xs => some (xs.map V.str)
  | .call _ _ _ _ ad => some (ad.map aV)
  | _ => none
def RecAt (H : Hp) (r : Addr) (x : Rec) : Prop := ∃ a, H r = some (.tup (recV a x)) ∧ ∀ l, recA x = some l → H a = some (.tup l)
def partsR : Rec → List Str
  | .ent xs => "entries" :: xs
  | .txt m t => ["text", m, Txt.replace t "\n" "|"]
  | .rem m => ["remove", m]
  | .upd n => ["update", toString ((n : Nat) : Int)]
  | .call h n m f ad => "call" :: toString ((h : Nat) : Int) :: toString ((n : Nat) : Int) :: m :: f :: ad.map aT
def wR (x : Rec) : Str := Txt.join " " (partsR x)
/-- a record of small parts -/
def RecSm : Rec → Prop
  | .ent xs => xs.length ≤ 10 ∧ ∀ z ∈ xs, z.length ≤ 5000
  | .txt m t => m.length ≤ 5000 ∧ t.length ≤ 5000
  | .rem m => m.length ≤ 5000
  | .upd n => n < 100000
  | .call h n m f ad => h < 100000 ∧ n < 100000 ∧ m.length ≤ 5000 ∧ f.length ≤ 5000 ∧ ad.length ≤ 10 ∧ ∀ x ∈ ad, aZ x ∧ (aT x).length ≤ 10000
theorem swr {H H1 : Hp} {l : Addr} {xs : List V} {o : HO} (s : Same H H1) (nl : H l = none) (_e : H1 l = some (.lst xs)) : Same H (upd H1 l o) := fun q u e1 => by
  rw [upd_ne (fun z => by rw [z, nl] at e1; cases e1)]
  exact s q u e1
/-- what stands between the word and the end -/
def partsA : Rec → List AV
  | .ent xs => xs.map .s
  | .txt m t => [.s m, .s (Txt.replace t "\n" "|")]
  | .rem m => [.s m]
  | .upd n => [.i (n : Nat)]
  | .call h n m f ad => .i (h : Nat) :: .i (n : Nat) :: .s m :: .s f :: ad.map fun a => .s (aT a)
def sT : AV → Str
  | .i n => toString n
  | .s z => z
def wordR : Rec → Str
  | .ent _ => "entries"
  | .txt _ _ => "text"
  | .rem _ => "remove"
  | .upd _ => "update"
  | .call _ _ _ _ _ => "call"
theorem parts_eq (x : Rec) : partsR x = wordR x :: (partsA x).map sT := by
  cases x with
  | ent xs => show _ :: xs = _ :: List.map sT (xs.map AV.s); rw [List.map_map]; show _ = _ :: List.map (fun x => x) xs; rw [List.map_id']; rfl
  | txt m t => rfl
  | rem m => rfl
  | upd n => rfl
  | call h n m f ad => show _ :: _ :: _ :: _ :: _ :: ad.map aT = _ :: _ :: _ :: _ :: _ :: List.map sT (ad.map _); rw [List.map_map]; rfl
def aP : AV → Prop
  | .i n => n.natAbs.log2 < 1920 ∧ (toString n : Str).length ≤ 12000
  | .s z => z.length ≤ 12000
theorem gn {i : Nat} {v : V} {σ : L2.St} {H : Hp} {Q : L2.St → Hp → Prop} (h : Q (σ.set i (some v)) H) : gName i v σ H Q := h
theorem nxp {u b c : L2.St → Hp → Prop} {r : VK} {σ : L2.St} {H : Hp} (h : u σ H) : (⟨u, r, b, c⟩ : Ends).nx σ H := h
theorem seq_mid {A B : TS} {D : Ends} {σ : L2.St} {H : Hp} (M : L2.St → Hp → Prop) (h2 : ∀ σ' H', M σ' H' → B D σ' H') (h1 : (∀ σ' H', M σ' H' → B D σ' H') → tSeq A B D σ H) : tSeq A B D σ H := h1 h2
theorem numT_small {n : Nat} (h : n < 100000) : ((n : Nat) : Int).natAbs.log2 < 1920 ∧ (Str.ofString (toString ((n : Nat) : Int))).length ≤ 12000 := by
  refine ⟨log_small h, ?_⟩
  have := (numT_dig (show n ≤ 99999 by omega)).2.1
  have e : (numT n).length = (Str.ofString (toString ((n : Nat) : Int))).length := Array.length_toList
  omega
theorem partsA_sm (x : Rec) (h : RecSm x) : (∀ a ∈ partsA x, aP a) ∧ (partsA x).length ≤ 20 := by
  cases x with
  | ent xs =>
    refine ⟨fun a ha => ?_, by show (xs.map _).length ≤ 20; rw [List.length_map]; exact Nat.le_trans h.1 (by decide)⟩
    obtain ⟨z, hz, rfl⟩ := List.mem_map.mp ha
    exact Nat.le_trans (h.2 z hz) (by decide)
  | txt m t =>
    refine ⟨fun a ha => ?_, Nat.le_of_ble_eq_true rfl⟩
    have e1 : (Str.ofString "|").length = 1 := rfl
    have := TK.replace_len t "\n" "|"
    rcases List.mem_cons.mp ha with rfl | ha
    · exact Nat.le_trans h.1 (by decide)
    · rcases List.mem_cons.mp ha with rfl | ha
      · have h2 := h.2
        show (Txt.replace t "\n" "|").length ≤ 12000
        rw [e1] at this
        omega
      · cases ha
  | rem m =>
    refine ⟨fun a ha => ?_, Nat.le_of_ble_eq_true rfl⟩
    rw [List.mem_singleton.mp ha]
    exact Nat.le_trans (show m.length ≤ 5000 from h) (by decide)
  | upd n =>
    refine ⟨fun a ha => ?_, Nat.le_of_ble_eq_true rfl⟩
    rw [List.mem_singleton.mp ha]
    exact numT_small h
  | call hh n m f ad =>
    obtain ⟨h1, h2, h3, h4, h5, h6⟩ := h
    refine ⟨fun a ha => ?_, by show (ad.map _).length + 1 + 1 + 1 + 1 ≤ 20; rw [List.length_map]; omega⟩
    rcases List.mem_cons.mp ha with rfl | ha
    · exact numT_small h1
    rcases List.mem_cons.mp ha with rfl | ha
    · exact numT_small h2
    rcases List.mem_cons.mp ha with rfl | ha
    · exact Nat.le_trans h3 (by decide)
    rcases List.mem_cons.mp ha with rfl | ha
    · exact Nat.le_trans h4 (by decide)
    obtain ⟨z, hz, rfl⟩ := List.mem_map.mp ha
    exact Nat.le_trans (h6 z hz).2 (by decide)
theorem sum_le {B : Nat} : ∀ {l : List Nat}, (∀ x ∈ l, x ≤ B) → l.sum ≤ l.length * B
  | [], _ => Nat.zero_le _
  | a :: l, h => by
    have h1 := h a List.mem_cons_self
    have h2 := sum_le (l := l) fun x hx => h x (List.mem_cons_of_mem _ hx)
    rw [List.sum_cons, List.length_cons, Nat.add_mul]
    omega
section
variable {P : Program} {w : World} {K : PySem.W.Frag} {mg : Str → Option Value} {base : Heap} {PN PV : Addr}
def spWRec : L2.Sp := fun vs H Q _ => ∃ (r : Addr) (x : Rec), vs = [.ref r] ∧ RecAt H r x ∧ RecSm x ∧ ∀ H', Same H H' → Q (.str (wR x)) H'
theorem scWRec : FnScope ["record", "word", "parts", "value", "part"] ["record"] (defScope sWRec) := ⟨rfl, rfl, rfl, by decide +kernel, rfl, by decide +kernel, by decide +kernel⟩
theorem ok_wRec {f f1 : Addr} {fd fd1 : FuncData} (F : Fun K "write_record" "write_record" sWRec f fd) (T : Txt K mg)
    (FV : FO P w K mg base CX0 1 "write_value" ["value"] spWVal f1 fd1) : FnOk P w K mg base CX0 2 f fd ["record"] spWRec := by
  have sc := scWRec
  have T3 := T
  refine F.ok sc (fun vs H Q E h => ?_) (fun cdv A outer s H vs Q E hr h => ?_)
  · obtain ⟨r, x, rfl, _⟩ := h
    rfl
  · obtain ⟨r, x, rfl, hx, hs, q⟩ := h
    refine ⟨_, (pss_cons (ps_set (i := 1) sc.nd rfl (Or.inl rfl) (pe_ix ix_tup (pv 0) pe_int (fun _ _ => rfl)))
      (pss_cons (ps_if (pt_cmpR op_eq (pv 1) pe_str (nomark _))
      (pss_one (ps_set (i := 2) sc.nd rfl (Or.inl rfl) (pe_ix ix_tup (pv 0) pe_int (fun _ _ => rfl))))
      (pss_one (ps_if (pt_cmpR op_eq (pv 1) pe_str (nomark _))
      (pss_one (ps_set (i := 2) sc.nd rfl (Or.inl rfl) (pe_tup (pa_ixT ix_tup (pv 0) (pat_cons (CwR.pet_replC (pe_ix ix_tup (pv 0) pe_int (fun _ _ => rfl))) pat_nil) (fun _ _ => rfl)))))
      (pss_one (ps_if (pt_cmpR op_eq (pv 1) pe_str (nomark _))
      (pss_one (ps_set (i := 2) sc.nd rfl (Or.inl rfl) (pe_tup (StX.pa_star (pe_slice sl_tup (pv 0) (po_some pe_int) (po_some pe_int)) (StX.pa_star (pe_lc (own := [("value", 3)]) rfl sc.nd (pi_tup (pe_ix ix_tup (pv 0) pe_int (fun _ _ => rfl))) (blkOk_by (own := [("value", 3)]) (N := ["record", "word", "parts", "value", "part"]) (sc := defScope sWRec) (by decide +kernel)) (fun _ _ _ _ _ => (pg_name (i := 3) sc.nd rfl (Or.inl rfl))) (fun _ _ _ _ _ => pts_nil) (fun _ _ _ _ _ => (pe_call FV.ok hr (by rfl) FV.m FV.kp FV.b .nil pass0 (pa_cons (pv 3) pa_nil)))) pa_nil)))))
      (pss_one (ps_set (i := 2) sc.nd rfl (Or.inl rfl) (pe_slice sl_tup (pv 0) (po_some pe_int) po_none))))))))
      (pss_one (ps_ret (pe_join pe_str (pe_op op_cat (pe_lst (pa_cons (pv 1) pa_nil)) (pe_lc (own := [("part", 4)]) rfl sc.nd (pi_tup (pv 2)) (blkOk_by (own := [("part", 4)]) (N := ["record", "word", "parts", "value", "part"]) (sc := defScope sWRec) (by decide +kernel)) (fun _ _ _ _ _ => (pg_name (i := 4) sc.nd rfl (Or.inl rfl))) (fun _ _ _ _ _ => pts_nil) (fun _ _ _ _ _ => (pe_callTy call_str_any (by rfl) T.bstr (by decide +kernel) (pa_cons (pv 4) pa_nil)))))))))), ?_⟩
    obtain ⟨pa1, pa2⟩ := partsA_sm x hs
    obtain ⟨a, er, ea⟩ := hx
    have it : ∀ {H' : Hp} {i : Nat} {v : V}, Same H H' → (recV a x)[i]? = some v → SqT K H' r (recV a x) ∧ atI (recV a x) (i : Int) = some v := fun s e => ⟨SqT.of (s _ _ er), atI_nat e⟩
    have w0 : (recV a x)[0]? = some (.str (wordR x)) := by cases x <;> rfl
    refine ⟨_, rfl, r, _, _, _, rfl, rfl, (it (Same.refl _) w0).1, (it (Same.refl _) w0).2, ?_⟩
    refine gn ?_
    refine nxp ?_
    refine seq_mid (A := tIfS _ _ _) (fun σ' H' => ∃ (y3 y4 : Option V) (p : Addr), σ' = [some (.ref r), some (.str (wordR x)), some (.ref p), y3, y4] ∧ Same H H' ∧ H' p = some (.tup ((partsA x).map aV))) ?_ (fun mid => ?_)
    rotate_left
    · cases x with
      | ent xs =>
        refine ⟨_, rfl, rfl, _, rfl, iteT ?_⟩
        refine ⟨_, rfl, r, _, _, _, rfl, rfl, (it (Same.refl _) (i := 1) rfl).1, (it (Same.refl _) (i := 1) rfl).2, ?_⟩
        refine mid _ _ ⟨_, _, a, rfl, Same.refl _, ?_⟩
        rw [ea _ rfl]
        show _ = some (HO.tup ((xs.map AV.s).map aV))
        rw [List.map_map]
        rfl
      | txt m t =>
        refine ⟨_, rfl, rfl, _, rfl, iteF ?_⟩
        refine ⟨_, rfl, rfl, _, rfl, iteT ?_⟩
        refine ⟨_, rfl, r, _, _, _, rfl, rfl, (it (Same.refl _) (i := 1) rfl).1, (it (Same.refl _) (i := 1) rfl).2, ?_⟩
        refine ⟨_, rfl, r, _, _, _, rfl, rfl, (it (Same.refl _) (i := 2) rfl).1, (it (Same.refl _) (i := 2) rfl).2, t, rfl, ?_, two_le, fun p np => ?_⟩
        · have e1 : (Str.ofString "|").length = 1 := rfl
          have := hs.2
          rw [e1]
          omega
        · exact mid _ _ ⟨_, _, p, rfl, Same.lst (Same.refl _) np, upd_same⟩
      | rem m =>
        refine ⟨_, rfl, rfl, _, rfl, iteF ?_⟩
        refine ⟨_, rfl, rfl, _, rfl, iteF ?_⟩
        refine ⟨_, rfl, rfl, _, rfl, iteF ?_⟩
        refine ⟨_, rfl, 1, rfl, r, _, rfl, (it (Same.refl _) w0).1, (fun z => absurd (show (1 : Nat) = 0 from z.1) (by decide)), fun p np => ?_⟩
        exact mid _ _ ⟨_, _, p, rfl, Same.lst (Same.refl _) np, upd_same⟩
      | upd n =>
        refine ⟨_, rfl, rfl, _, rfl, iteF ?_⟩
        refine ⟨_, rfl, rfl, _, rfl, iteF ?_⟩
        refine ⟨_, rfl, rfl, _, rfl, iteF ?_⟩
        refine ⟨_, rfl, 1, rfl, r, _, rfl, (it (Same.refl _) w0).1, (fun z => absurd (show (1 : Nat) = 0 from z.1) (by decide)), fun p np => ?_⟩
        exact mid _ _ ⟨_, _, p, rfl, Same.lst (Same.refl _) np, upd_same⟩
      | call hh n m f ad =>
        refine ⟨_, rfl, rfl, _, rfl, iteF ?_⟩
        refine ⟨_, rfl, rfl, _, rfl, iteF ?_⟩
        refine ⟨_, rfl, rfl, _, rfl, iteT ?_⟩
        have e0 : H a = some (.tup (ad.map aV)) := ea _ rfl
        refine ⟨_, rfl, 1, rfl, 5, rfl, r, _, rfl, (it (Same.refl _) w0).1, (fun z => absurd (show (1 : Nat) = 0 from z.1) (by decide)), fun q1 nq1 => ?_⟩
        have s1 : Same H (upd H q1 (.tup (cutV (recV a (.call hh n m f ad)) (some 1) (some 5)))) := Same.lst (Same.refl _) nq1
        have e1 : (upd H q1 (.tup (cutV (recV a (.call hh n m f ad)) (some 1) (some 5)))) q1 = some (.tup [.int hh, .int n, .str m, .str f]) := upd_same
        generalize (upd H q1 (.tup (cutV (recV a (.call hh n m f ad)) (some 1) (some 5)))) = H1 at *
        refine ⟨_, _, rfl, .inl (SqT.of e1), _, rfl, r, _, _, _, rfl, rfl, (it s1 (i := 5) rfl).1, (it s1 (i := 5) rfl).2, a, rfl, ⟨_, SqT.of (s1 _ _ e0)⟩, fun l nl => ?_⟩
        refine lc_it (walk_tup (K := K) (a := a) (xs := ad.map aV)) (fun j H' => Same H1 H' ∧ H' l = some (.lst (((ad.take j).map aT).map V.str))) ⟨Same.lst (Same.refl _) nl, upd_same⟩ (fun i H' _ pv => SqT.of (strans s1 pv.1 _ _ e0)) (fun j x H2 H3 hj pv y => ?_) (fun H2 pv => ?_)
        · obtain ⟨rfl, hx⟩ := y
          rw [List.getElem?_map, Option.map_eq_some_iff] at hx
          obtain ⟨z, hi, rfl⟩ := hx
          obtain ⟨s2, el⟩ := pv
          obtain ⟨h1, h2, h3, h4, h5, h6⟩ := hs
          refine ⟨rfl, _, rfl, z, rfl, (h6 z (List.mem_of_getElem? hi)).1, _, el, ?_, swr s2 nl el, ?_⟩
          · rw [List.length_map, List.length_map, List.length_take]
            exact szlt (by omega)
          · rw [upd_same, List.take_add_one, hi, List.map_append, List.map_append]
            rfl
        · have lv : (ad.map aV).length = ad.length := List.length_map _
          rw [lv, List.take_length] at pv
          obtain ⟨s2, el⟩ := pv
          refine ⟨l, _, rfl, .inr (SqL.of el), ?_, fun t nt => ?_⟩
          · simp only [List.length_append, List.length_map, List.length_cons, List.length_nil]
            have := hs.2.2.2.2.1
            exact szle (by omega)
          · refine mid _ _ ⟨_, _, t, rfl, snew (strans s1 s2) nt, ?_⟩
            rw [upd_same, List.append_nil]
            show some (HO.tup (V.int hh :: V.int n :: V.str m :: V.str f :: (ad.map aT).map V.str)) = some (HO.tup (V.int hh :: V.int n :: V.str m :: V.str f :: (ad.map fun a => AV.s (aT a)).map aV))
            rw [List.map_map, List.map_map]
            rfl
    rintro σ' H1 ⟨y3, y4, p, rfl, s1, ep⟩
    have lp : ((partsA x).map aV).length = (partsA x).length := List.length_map _
    refine ⟨⟨_, rfl⟩, _, rfl, (show 1 ≤ sizeLine by decide), fun l1 nl1 => ?_⟩
    have s2 := snew (o := .lst [.str (wordR x)]) s1 nl1
    have el1 : upd H1 l1 (.lst [.str (wordR x)]) l1 = some (.lst [.str (wordR x)]) := upd_same
    have ep2 : upd H1 l1 (.lst [.str (wordR x)]) p = some (.tup ((partsA x).map aV)) := by
      rw [upd_ne (ne_of_none ep nl1)]
      exact ep
    generalize upd H1 l1 (.lst [.str (wordR x)]) = H2 at *
    refine ⟨_, rfl, p, rfl, ⟨_, SqT.of ep2⟩, fun l nl => ?_⟩
    refine lc_it (walk_tup (K := K) (a := p) (xs := (partsA x).map aV)) (fun j H' => Same H2 H' ∧ H' l = some (.lst ((((partsA x).take j).map sT).map V.str))) ⟨Same.lst (Same.refl _) nl, upd_same⟩ (fun i H' _ pv => SqT.of (pv.1 _ _ ep2)) (fun j v H3 H4 hj pv y => ?_) (fun H3 pv => ?_)
    · obtain ⟨rfl, hv⟩ := y
      rw [List.getElem?_map, Option.map_eq_some_iff] at hv
      obtain ⟨z, hi, rfl⟩ := hv
      obtain ⟨s3, el⟩ := pv
      have pz := pa1 z (List.mem_of_getElem? hi)
      have fin : ∃ acc, H4 l = some (.lst acc) ∧ acc.length < sizeLine ∧ Same H2 (upd H4 l (.lst (acc ++ [V.str (sT z)]))) ∧ upd H4 l (.lst (acc ++ [V.str (sT z)])) l = some (.lst ((((partsA x).take (j + 1)).map sT).map V.str)) := by
        refine ⟨_, el, ?_, swr s3 nl el, ?_⟩
        · rw [List.length_map, List.length_map, List.length_take]
          exact szlt (by omega)
        · rw [upd_same, List.take_add_one, hi, List.map_append, List.map_append]
          rfl
      refine ⟨rfl, _, rfl, ?_⟩
      cases z with
      | i n => exact .inl ⟨n, rfl, pz.1, fin⟩
      | s z => exact .inr ⟨z, rfl, fin⟩
    · rw [lp, List.take_length] at pv
      obtain ⟨s3, el⟩ := pv
      refine ⟨l1, l, _, _, rfl, rfl, s3 _ _ el1, el, ?_, fun t nt => ?_⟩
      · rw [List.length_map, List.length_map]
        exact szle (by show 1 + _ ≤ 5000; omega)
      · refine ⟨_, t, partsR x, rfl, rfl, .inl (SqL.of (xs := (partsR x).map V.str) ?_), ?_, q _ (snew (strans s2 s3) nt)⟩
        · rw [upd_same, parts_eq]
          rfl
        · have sm : ((partsR x).map (·.length)).sum ≤ 21 * 12000 := by
            refine Nat.le_trans (sum_le (B := 12000) fun k hk => ?_) ?_
            · obtain ⟨z, hz, rfl⟩ := List.mem_map.mp hk
              rw [parts_eq] at hz
              rcases List.mem_cons.mp hz with rfl | hz
              · cases x <;> exact Nat.le_of_ble_eq_true rfl
              · obtain ⟨a, ha, rfl⟩ := List.mem_map.mp hz
                have := pa1 a ha
                cases a with
                | i n => exact this.2
                | s z => exact this
            · rw [List.length_map, parts_eq, List.length_cons, List.length_map]
              exact Nat.mul_le_mul_right _ (by omega)
          have e1 : (Str.ofString " ").length = 1 := rfl
          rw [e1]
          have : (partsR x).length ≤ 21 := by
            rw [parts_eq, List.length_cons, List.length_map]
            omega
          omega
end
end K6

set_option maxRecDepth 100000
set_option maxHeartbeats 4000000
/-! data in tuples; what is showable -/
namespace K6
open PySem hiding Tok code
open PySem.Spec PyProof.Rows GD K1
open L2 hiding rest
mutual
inductive TD (H : Hp) : V → PyData → Prop
  | int (i : Int) : TD H (.int i) (.int i)
  | str (x : Str) : TD H (.str x) (.str x)
  | tup {a : Addr} {xs : List V} {ds : List PyData} : H a = some (.tup xs) → TDs H xs ds → TD H (.ref a) (.tuple ds)
inductive TDs (H : Hp) : List V → List PyData → Prop
  | nil : TDs H [] []
  | cons {v : V} {vs : List V} {d : PyData} {ds : List PyData} : TD H v d → TDs H vs ds → TDs H (v :: vs) (d :: ds)
end
/-- tuples stay -/
def KT (H H' : Hp) : Prop := ∀ q xs, H q = some (.tup xs) → H' q = some (.tup xs)
mutual
theorem TD.up {H H' : Hp} (k : KT H H') : ∀ {v : V} {d : PyData}, TD H v d → TD H' v d
  | _, _, .int i => .int i
  | _, _, .str x => .str x
  | _, _, .tup e t => .tup (k _ _ e) (TDs.up k t)
theorem TDs.up {H H' : Hp} (k : KT H H') : ∀ {vs : List V} {ds : List PyData}, TDs H vs ds → TDs H' vs ds
  | _, _, .nil => .nil
  | _, _, .cons a b => .cons (TD.up k a) (TDs.up k b)
end
mutual
theorem TD.dp {K : PySem.W.Frag} {H : Hp} : ∀ {v : V} {d : PyData}, TD H v d → Dp K H v d
  | _, _, .int i => .int i
  | _, _, .str x => .str x
  | _, _, .tup e t => .tup (SqT.of e) (TDs.dp t)
theorem TDs.dp {K : PySem.W.Frag} {H : Hp} : ∀ {vs : List V} {ds : List PyData}, TDs H vs ds → DpAll K H vs ds
  | _, _, .nil => .nil
  | _, _, .cons a b => .cons (TD.dp a) (TDs.dp b)
end
theorem TDs.app {H : Hp} : ∀ {vs us : List V} {ds es : List PyData}, TDs H vs ds → TDs H us es → TDs H (vs ++ us) (ds ++ es)
  | _, _, _, _, .nil, b => b
  | _, _, _, _, .cons a r, b => .cons a (TDs.app r b)
theorem TDs.len {H : Hp} : ∀ {vs : List V} {ds : List PyData}, TDs H vs ds → vs.length = ds.length
  | _, _, .nil => rfl
  | _, _, .cons _ r => by rw [List.length_cons, List.length_cons, TDs.len r]
theorem pair_imp {α β : Type} {R R' : α → β → Prop} {l : List α} {m : List β} (h : Paired R l m) (k : ∀ a b, R a b → R' a b) : Paired R' l m := by
  induction h with
  | nil => exact .nil
  | cons a _ ih => exact .cons (k _ _ a) ih
theorem pair_len {α β : Type} {R : α → β → Prop} {l : List α} {m : List β} (h : Paired R l m) : l.length = m.length := by
  induction h with
  | nil => rfl
  | cons _ _ ih => rw [List.length_cons, List.length_cons, ih]
theorem pair_snoc {α β : Type} {R : α → β → Prop} {l : List α} {m : List β} {a : α} {b : β} (h : Paired R l m) (k : R a b) : Paired R (l ++ [a]) (m ++ [b]) := by
  induction h with
  | nil => exact .cons k .nil
  | cons a _ ih => exact .cons a ih
theorem iteE {c : Bool} {A B : Prop} (h : c = false) (x : B) : if c = true then A else B := by
  rw [h]
  exact iteF x
theorem iteY {c : Bool} {A B : Prop} (h : c = true) (x : A) : if c = true then A else B := by
  rw [h]
  exact iteT x
def aD : AV → PyData
  | .i n => .int n
  | .s z => .str z
theorem aD_td {H : Hp} : ∀ ad : List AV, TDs H (ad.map aV) (ad.map aD)
  | [] => .nil
  | .i n :: r => .cons (.int n) (aD_td r)
  | .s z :: r => .cons (.str z) (aD_td r)
structure Fit (d : PyData) (k B : Nat) : Prop where
  sh : d.showable = true
  nd : d.hasDict = false
  dp : d.depth ≤ k
  ln : d.shown.length ≤ B
  cl : d.canLay0 = true
theorem Fit.more {d : PyData} {k B k' B' : Nat} (f : Fit d k B) (h1 : k ≤ k') (h2 : B ≤ B') : Fit d k' B' := ⟨f.sh, f.nd, Nat.le_trans f.dp h1, Nat.le_trans f.ln h2, f.cl⟩
theorem Fit.str {z : Str} {n : Nat} (h1 : z.length ≤ n) (h2 : ∀ c ∈ z.cps.toList, c < 1000) : Fit (.str z) 0 (10 * n + 2) := by
  refine ⟨by simp only [PyData.showable], by simp only [PyData.hasDict], by simp only [PyData.depth]; omega, ?_, ?_⟩
  · simp only [PyData.shown]
    have := StrLaws.reprText_len z fun c hc => Nat.lt_trans (h2 c hc) (by decide)
    omega
  · simp only [PyData.canLay0]
    unfold PyData.strOk
    rw [Array.all_eq_true]
    intro i hi
    exact decide_eq_true (Nat.lt_trans (h2 _ (by
      have : z.cps[i] ∈ z.cps := Array.getElem_mem hi
      exact Array.mem_toList_iff.mpr this)) (by decide))
theorem Fit.strS {l : List Nat} {n : Nat} (h1 : l.length ≤ n) (h2 : ∀ c ∈ l, c < 1000) : Fit (.str (S l)) 0 (10 * n + 2) := Fit.str (by rw [S_len]; exact h1) h2
theorem Fit.num {n : Nat} (h : n ≤ 99999) : Fit (.int (n : Nat)) 0 5 := by
  refine ⟨?_, by simp only [PyData.hasDict], by simp only [PyData.depth]; omega, ?_, by simp only [PyData.canLay0]⟩
  · simp only [PyData.showable]
    exact decide_eq_true (log_small (by omega))
  · simp only [PyData.shown]
    have := (numT_dig h).2.1
    have e : (Str.ofString (toString ((n : Nat) : Int))).length = (numT n).length := by
      show (Str.ofString (toString ((n : Nat) : Int))).cps.size = _
      unfold numT
      simp
    rw [← e] at this
    exact this
theorem Fit.bool (b : Bool) : Fit (.bool b) 0 5 := by
  refine ⟨by simp only [PyData.showable], by simp only [PyData.hasDict], by simp only [PyData.depth]; omega, ?_, by simp only [PyData.canLay0]⟩
  cases b <;> simp only [PyData.shown] <;> decide
theorem Fit.none : Fit .none 0 5 := by
  refine ⟨by simp only [PyData.showable], by simp only [PyData.hasDict], by simp only [PyData.depth]; omega, ?_, by simp only [PyData.canLay0]⟩
  simp only [PyData.shown]; decide
structure FitA (ds : List PyData) (k B : Nat) : Prop where
  sh : PyData.showableAll ds = true
  nd : PyData.hasDictAll ds = false
  dp : PyData.depthAll ds ≤ k
  ln : ∀ x ∈ PyData.shownAll ds, x.length ≤ B
  le : (PyData.shownAll ds).length = ds.length
  cl : PyData.canLayAll0 ds = true
theorem FitA.of {k B : Nat} : ∀ {ds : List PyData}, (∀ d ∈ ds, Fit d k B) → FitA ds k B
  | [], _ => ⟨rfl, rfl, Nat.zero_le _, fun x hx => (by cases hx), rfl, rfl⟩
  | d :: ds, h => by
    have f := h d List.mem_cons_self
    have r := FitA.of (ds := ds) fun x hx => h x (List.mem_cons_of_mem _ hx)
    refine ⟨?_, ?_, ?_, fun x hx => ?_, ?_, ?_⟩
    · show (PyData.showable d && PyData.showableAll ds) = true
      rw [f.sh, r.sh]; rfl
    · show (PyData.hasDict d || PyData.hasDictAll ds) = false
      rw [f.nd, r.nd]; rfl
    · show max (PyData.depth d) (PyData.depthAll ds) ≤ k
      have := f.dp; have := r.dp; omega
    · rcases List.mem_cons.mp hx with rfl | hx
      · exact f.ln
      · exact r.ln x hx
    · show (PyData.shownAll ds).length + 1 = ds.length + 1
      rw [r.le]
    · show (PyData.canLay0 d && PyData.canLayAll0 ds) = true
      rw [f.cl, r.cl]; rfl
theorem textFrom_up2 : ∀ (ts : List Str) (k : Nat) (acc : Str) (B : Nat), (∀ t ∈ ts, t.length ≤ B) → (textFrom k acc ts).length ≤ acc.length + ts.length * (B + 2)
  | [], k, acc, B, _ => by
    show acc.length ≤ _
    omega
  | t :: ts, k, acc, B, h => by
    have ih := textFrom_up2 ts (k + 1) (acc ++ (if k > 0 then ", " else "" : String) ++ t) B (fun x hx => h x (List.mem_cons_of_mem _ hx))
    have ht := h t List.mem_cons_self
    have e : (acc ++ (if k > 0 then ", " else "" : String) ++ t).length ≤ acc.length + 2 + t.length := by
      rw [strLen_append, strLen_append]
      have : ((if k > 0 then ", " else "" : String) : Str).length ≤ 2 := by split <;> decide
      omega
    show (textFrom (k + 1) (acc ++ (if k > 0 then ", " else "" : String) ++ t) ts).length ≤ acc.length + (ts.length + 1) * (B + 2)
    rw [Nat.add_mul]
    omega
theorem Fit.list {ds : List PyData} {k B : Nat} (h : ∀ d ∈ ds, Fit d k B) : Fit (.list ds) (k + 1) (ds.length * (B + 2) + 4) := by
  have r := FitA.of h
  refine ⟨by simpa only [PyData.showable] using r.sh, by simpa only [PyData.hasDict] using r.nd, by simp only [PyData.depth]; have := r.dp; omega, ?_, by simpa only [PyData.canLay0] using r.cl⟩
  simp only [PyData.shown]
  unfold listText
  rw [strLen_append]
  have := textFrom_up2 (PyData.shownAll ds) 0 "[" B r.ln
  rw [r.le] at this
  have e1 : (("[" : String) : Str).length = 1 := rfl
  have e2 : (("]" : String) : Str).length = 1 := rfl
  rw [e1] at this
  rw [e2]
  omega
theorem piled_le {B : Nat} : ∀ {ts : List Str}, (∀ t ∈ ts, t.length ≤ B) → piled ts ≤ ts.length * (B + 2)
  | [], _ => Nat.zero_le _
  | t :: ts, h => by
    have h1 := h t List.mem_cons_self
    have h2 := piled_le (ts := ts) fun x hx => h x (List.mem_cons_of_mem _ hx)
    have e : piled (t :: ts) = t.length + 2 + piled ts := by simp [piled]
    rw [e, List.length_cons, Nat.succ_mul]
    omega
theorem Fit.tup {ds : List PyData} {k B : Nat} (h : ∀ d ∈ ds, Fit d k B) : Fit (.tuple ds) (k + 1) (ds.length * (B + 2) + 4) := by
  have r := FitA.of h
  refine ⟨by simpa only [PyData.showable] using r.sh, by simpa only [PyData.hasDict] using r.nd, by simp only [PyData.depth]; have := r.dp; omega, ?_, by simpa only [PyData.canLay0] using r.cl⟩
  simp only [PyData.shown]
  unfold tupleText
  rw [strLen_append, strLen_append]
  have e1 : (("(" : String) : Str).length = 1 := rfl
  have e2 : ((if (PyData.shownAll ds).length == 1 then ",)" else ")" : String) : Str).length ≤ 2 := by split <;> decide
  have e3 : (Str.join ", " (PyData.shownAll ds)).length ≤ ds.length * (B + 2) := by
    by_cases z : PyData.shownAll ds = []
    · rw [z]; exact Nat.zero_le _
    · have := join_length_add _ z
      have := piled_le r.ln
      rw [r.le] at this
      omega
  omega
end K6

set_option maxRecDepth 100000
set_option maxHeartbeats 4000000
/-! what is read of a text, as a function -/
namespace K6
open PySem hiding Tok code
open PySem.Spec PyProof.Rows GD K1
open L2 hiding rest
def lexF : Nat → List Nat → Option (List K1.Tok)
  | 0, _ => some []
  | _ + 1, [] => some []
  | n + 1, c :: r => if c = 32 then lexF n r else match lexC c r with
    | none => none
    | some (t, k) => (lexF n ((c :: r).drop k)).map (t :: ·)
theorem lexF_ok : ∀ (n : Nat) (L : List Nat), L.length ≤ n → Lex L (lexF n L)
  | 0, [], _ => .nil
  | n + 1, [], _ => .nil
  | 0, _ :: _, h => by simp at h
  | n + 1, c :: r, h => by
    have hr : r.length ≤ n := by simpa using h
    unfold lexF
    by_cases hc : c = 32
    · rw [if_pos hc, hc]
      exact .sp (lexF_ok n r hr)
    · rw [if_neg hc]
      cases e : lexC c r with
      | none => exact .bad hc e
      | some tk =>
        obtain ⟨t, k⟩ := tk
        have hk := lexC_pos e
        exact .tok hc e (lexF_ok n _ (by rw [List.length_drop, List.length_cons]; omega))
theorem Lex.uni {L : List Nat} {o : Option (List K1.Tok)} (h : Lex L o) : ∀ {o'}, Lex L o' → o = o' := by
  induction h with
  | nil => intro o' h'; cases h'; rfl
  | sp _ ih =>
    intro o' h'
    cases h' with
    | sp h' => exact ih h'
    | bad n _ => exact absurd rfl n
    | tok n _ _ => exact absurd rfl n
  | bad n e =>
    intro o' h'
    cases h' with
    | sp h' => exact absurd rfl n
    | bad _ _ => rfl
    | tok _ e' _ => rw [e] at e'; cases e'
  | tok n e _ ih =>
    intro o' h'
    cases h' with
    | sp h' => exact absurd rfl n
    | bad _ e' => rw [e] at e'; cases e'
    | tok _ e' h'' =>
      rw [e] at e'
      cases e'
      rw [ih h'']
def valsM (L : List Nat) : Option (List AV) := match lexF L.length L with
  | none => none
  | some ts => if argsB (mkAV 1 ts) = true then some (mkAV 1 ts) else none
def numO (L : List Nat) (m len : Nat) : Option Nat := if digB (S L) = true ∧ L.length ≤ len ∧ val L ≤ m then some (val L) else none
def callN (a b m f : List Nat) (args : Option (List AV)) : Option Rec :=
  if (nameB (S m) && nameB (S f)) = true then
    match numO a 2 1 with
    | none => none
    | some h => match numO b 9999 4 with
      | none => none
      | some n => match args with
        | none => none
        | some ad => some (.call h n (S m) (S f) ad)
  else none
def callM (L : List Nat) : Option Rec := match spl 32 4 L [] with
  | [a, b, m, f] => callN a b m f (some [])
  | [a, b, m, f, g] => callN a b m f (valsM g)
  | _ => none
def textM (L : List Nat) : Option Rec := if nameB (S (parL 32 L).1) = true ∧ (parL 32 L).2.length ≤ 600 then some (.txt (S (parL 32 L).1) (S ((parL 32 L).2.map fun d => if d = 124 then 10 else d))) else none
def entM (L : List Nat) : Option Rec := if (decide (0 < ((spl 32 (L.length + 1) L []).map S).length) && namsB ((spl 32 (L.length + 1) L []).map S) 3) = true then some (.ent ((spl 32 (L.length + 1) L []).map S)) else none
def recM (w : Str) (L : List Nat) : Option Rec :=
  if w = "entries" then entM L
  else if w = "text" then textM L
  else if w = "remove" then (if nameB (S L) = true then some (.rem (S L)) else none)
  else if w = "update" then (match numO L 8 1 with | none => none | some n => some (.upd n))
  else if w = "call" then callM L else none
def chsB (L : List Nat) : Bool := L.all isCh
def readM (L : List Nat) : Option Rec := if chsB L = true then (match recM (S (parL 32 L).1) (parL 32 L).2 with
  | none => none
  | some x => if wR x = S L then some x else none) else none
/-! ### sizes -/
theorem spl_mem (c : Nat) : ∀ (r : List Nat) (k : Nat) (acc : List Nat) (p : List Nat), p ∈ spl c k r acc → (∀ d ∈ p, d ∈ acc ∨ d ∈ r) ∧ p.length ≤ acc.length + r.length
  | [], k, acc, p, h => by
    unfold spl at h
    rw [List.mem_singleton.mp h]
    exact ⟨fun d hd => .inl hd, Nat.le_refl _⟩
  | d :: r, 0, acc, p, h => by
    unfold spl at h
    rw [List.mem_singleton.mp h]
    exact ⟨fun e he => List.mem_append.mp he, by rw [List.length_append]; exact Nat.le_refl _⟩
  | d :: r, k + 1, acc, p, h => by
    unfold spl at h
    by_cases hd : d = c
    · rw [if_pos hd] at h
      rcases List.mem_cons.mp h with rfl | h
      · exact ⟨fun e he => .inl he, by omega⟩
      · have ih := spl_mem c r k [] p h
        refine ⟨fun e he => .inr (List.mem_cons_of_mem _ ((ih.1 e he).elim (fun z => (by cases z)) id)), ?_⟩
        have := ih.2
        rw [List.length_nil] at this
        rw [List.length_cons]
        omega
    · rw [if_neg hd] at h
      have ih := spl_mem c r (k + 1) (acc ++ [d]) p h
      refine ⟨fun e he => ?_, ?_⟩
      · rcases ih.1 e he with z | z
        · rcases List.mem_append.mp z with z | z
          · exact .inl z
          · rw [List.mem_singleton.mp z]
            exact .inr List.mem_cons_self
        · exact .inr (List.mem_cons_of_mem _ z)
      · have := ih.2
        rw [List.length_append, List.length_singleton] at this
        rw [List.length_cons]
        omega
theorem spl_count (c : Nat) : ∀ (r : List Nat) (k : Nat) (acc : List Nat), 1 ≤ (spl c k r acc).length ∧ (spl c k r acc).length ≤ k + 1
  | [], k, acc => by unfold spl; exact ⟨Nat.le_refl _, Nat.succ_le_succ (Nat.zero_le _)⟩
  | d :: r, 0, acc => ⟨Nat.le_refl _, Nat.le_refl _⟩
  | d :: r, k + 1, acc => by
    unfold spl
    by_cases hd : d = c
    · rw [if_pos hd]
      have := spl_count c r k []
      rw [List.length_cons]
      omega
    · rw [if_neg hd]
      exact spl_count c r (k + 1) (acc ++ [d])
theorem parL_mem (c : Nat) (L : List Nat) : ((∀ d ∈ (parL c L).1, d ∈ L) ∧ (parL c L).1.length ≤ L.length) ∧ ((∀ d ∈ (parL c L).2, d ∈ L) ∧ (parL c L).2.length ≤ L.length) := by
  have m := spl_mem c L 1 []
  have k : ∀ p ∈ spl c 1 L [], (∀ d ∈ p, d ∈ L) ∧ p.length ≤ L.length := fun p hp => ⟨fun d hd => ((m p hp).1 d hd).elim (fun z => (by cases z)) id, by have := (m p hp).2; rw [List.length_nil] at this; omega⟩
  unfold parL
  split
  · rename_i a b e
    rw [e] at k
    exact ⟨k a List.mem_cons_self, k b (List.mem_cons_of_mem _ List.mem_cons_self)⟩
  · exact ⟨⟨fun d h => h, Nat.le_refl _⟩, ⟨fun d h => (by cases h), Nat.zero_le _⟩⟩
theorem argsB_sm {ad : List AV} (h : argsB ad = true) : ad.length ≤ 3 ∧ ∀ x ∈ ad, aB x = true := by
  unfold argsB at h
  rw [Bool.and_eq_true, List.all_eq_true] at h
  exact ⟨of_decide_eq_true h.1, h.2⟩
theorem neg_list {n : Nat} (h : 0 < n) : (Str.ofString (toString (-((n : Nat) : Int)))).cps.toList = 45 :: numT n := by
  rw [toString_neg (n := -((n : Nat) : Int)) (by omega)]
  have e : (0 : Int) - -((n : Nat) : Int) = ((n : Nat) : Int) := by omega
  rw [e]
  have ofs : ∀ s : String, (Str.ofString s).cps.toList = s.toList.map Char.toNat := fun s => by
    unfold Str.ofString
    rw [← cpsOfBytes_string]
  rw [ofs, String.toList_append, List.map_append, ← ofs, ← ofs]
  rfl
theorem aT_len {x : AV} (h : aB x = true) : aZ x ∧ (aT x).length ≤ 10000 := by
  cases x with
  | i n =>
    obtain ⟨h1, h2⟩ : -99999 ≤ n ∧ n ≤ 99999 := of_decide_eq_true h
    rcases (show n < 0 ∨ 0 ≤ n by omega) with hn | hn
    · obtain ⟨m, rfl⟩ : ∃ m : Nat, n = -((m : Nat) : Int) := ⟨n.natAbs, by omega⟩
      have hm : 0 < m := by omega
      refine ⟨?_, ?_⟩
      · show (-((m : Nat) : Int)).natAbs.log2 < 1920
        rw [Int.natAbs_neg]
        exact log_small (by omega)
      · have e := congrArg List.length (neg_list hm)
        rw [Array.length_toList, List.length_cons] at e
        have := (numT_dig (show m ≤ 99999 by omega)).2.1
        show (Str.ofString (toString (-((m : Nat) : Int)))).cps.size ≤ 10000
        omega
    · obtain ⟨m, rfl⟩ : ∃ m : Nat, n = ((m : Nat) : Int) := ⟨n.natAbs, by omega⟩
      have := numT_small (n := m) (by omega)
      refine ⟨this.1, ?_⟩
      have e : (numT m).length = (Str.ofString (toString ((m : Nat) : Int))).length := Array.length_toList
      have := (numT_dig (show m ≤ 99999 by omega)).2.1
      show (Str.ofString (toString ((m : Nat) : Int))).length ≤ 10000
      omega
  | s z =>
    have hz : z.length ≤ 20 := by
      unfold aB strV at h
      rw [Bool.and_eq_true] at h
      exact of_decide_eq_true h.1
    refine ⟨Nat.le_trans hz (by decide), ?_⟩
    show ((Str.ofString "\"").cps ++ z.cps ++ (Str.ofString "\"").cps).size ≤ 10000
    rw [Array.size_append, Array.size_append]
    have e1 : (Str.ofString "\"").cps.size = 1 := rfl
    have e2 : z.cps.size = z.length := rfl
    omega
theorem callN_sm {a b m f : List Nat} {o : Option (List AV)} {x : Rec} (h : callN a b m f o = some x) (hm : m.length ≤ 5000) (hf : f.length ≤ 5000) (ho : ∀ ad, o = some ad → argsB ad = true) : RecSm x := by
  unfold callN numO at h
  split at h
  · split at h
    · cases h
    · rename_i h1 hh e1
      split at h
      · cases h
      · rename_i n e2
        split at h
        · cases h
        · rename_i ad
          cases h
          have q := argsB_sm (ho ad rfl)
          have n1 : hh ≤ 2 := by
            split at e1
            · rename_i z
              cases e1
              exact z.2.2
            · cases e1
          have n2 : n ≤ 9999 := by
            split at e2
            · rename_i z
              cases e2
              exact z.2.2
            · cases e2
          exact ⟨by omega, by omega, by rw [S_len]; exact hm, by rw [S_len]; exact hf, by omega, fun y hy => aT_len (q.2 y hy)⟩
  · cases h
theorem valsM_ok {L : List Nat} : ∀ ad, valsM L = some ad → argsB ad = true := by
  intro ad h
  unfold valsM at h
  split at h
  · cases h
  · split at h
    · rename_i h2
      cases h
      exact h2
    · cases h
theorem recM_sm {w : Str} {L : List Nat} {x : Rec} (hl : L.length ≤ 5000) (h : recM w L = some x) : RecSm x := by
  have pl : ∀ k, ∀ p ∈ spl 32 k L [], p.length ≤ 5000 := fun k p hp => by have := (spl_mem 32 L k [] p hp).2; rw [List.length_nil] at this; omega
  unfold recM at h
  split at h
  · unfold entM at h
    split at h
    · rename_i h2
      cases h
      rw [Bool.and_eq_true] at h2
      unfold namsB at h2
      rw [Bool.and_eq_true, Bool.and_eq_true] at h2
      have := of_decide_eq_true h2.2.1.1
      refine ⟨by omega, fun z hz => ?_⟩
      obtain ⟨p, hp, rfl⟩ := List.mem_map.mp hz
      rw [S_len]
      exact pl _ p hp
    · cases h
  split at h
  · unfold textM at h
    have := parL_mem 32 L
    split at h
    · cases h
      refine ⟨by rw [S_len]; omega, by rw [S_len, List.length_map]; omega⟩
    · cases h
  split at h
  · split at h
    · cases h
      show (S L).length ≤ 5000
      rw [S_len]
      exact hl
    · cases h
  split at h
  · split at h
    · cases h
    · rename_i n e
      cases h
      unfold numO at e
      split at e
      · rename_i z
        cases e
        show val L < 100000
        omega
      · cases e
  split at h
  · unfold callM at h
    split at h
    · rename_i a b m f e
      have := pl 4
      rw [e] at this
      exact callN_sm h (this m (by simp)) (this f (by simp)) fun ad e => by cases e; rfl
    · rename_i a b m f g e
      have := pl 4
      rw [e] at this
      exact callN_sm h (this m (by simp)) (this f (by simp)) valsM_ok
    · cases h
  · cases h
end K6

set_option maxRecDepth 100000
set_option maxHeartbeats 4000000
/-! what is written is read -/
namespace K6
open PySem hiding Tok code
open PySem.Spec PyProof.Rows GD K1
open L2 hiding rest
open TL (joinL tl_join)
theorem wR_list (x : Rec) : (wR x).cps.toList = joinL [32] ((partsR x).map fun z => z.cps.toList) := by
  unfold wR Txt.join
  rw [StrLaws.glued_eq_join]
  exact tl_join " " _
theorem spl_hit (c k d : Nat) (r acc : List Nat) : spl c (k + 1) (d :: r) acc = if d = c then acc :: spl c k r [] else spl c (k + 1) r (acc ++ [d]) := rfl
theorem spl_at {c : Nat} : ∀ (a : List Nat) {b : List Nat} {k : Nat} {acc : List Nat}, c ∉ a → spl c (k + 1) (a ++ c :: b) acc = (acc ++ a) :: spl c k b []
  | [], b, k, acc, _ => by
    show spl c (k + 1) (c :: b) acc = _
    rw [spl_hit, if_pos rfl, List.append_nil]
  | d :: a, b, k, acc, h => by
    show spl c (k + 1) (d :: (a ++ c :: b)) acc = _
    have hd : d ≠ c := fun z => h (by rw [z]; exact List.mem_cons_self)
    have ih := spl_at a (b := b) (k := k) (acc := acc ++ [d]) fun z => h (List.mem_cons_of_mem _ z)
    rw [List.append_assoc] at ih
    rw [← show [d] ++ a = d :: a from rfl, ← ih]
    show (if d = c then _ else _) = _
    rw [if_neg hd]
theorem spl_end {c : Nat} : ∀ (a : List Nat) {k : Nat} {acc : List Nat}, c ∉ a → spl c k a acc = [acc ++ a]
  | [], k, acc, _ => by unfold spl; rw [List.append_nil]
  | d :: a, 0, acc, h => rfl
  | d :: a, k + 1, acc, h => by
    have hd : d ≠ c := fun z => h (by rw [z]; exact List.mem_cons_self)
    rw [spl_hit, if_neg hd, spl_end a fun z => h (List.mem_cons_of_mem _ z), List.append_assoc]
    rfl
theorem spl_zero (c : Nat) (g : List Nat) : spl c 0 g [] = [g] := by cases g <;> rfl
theorem parL_app {c : Nat} {a b : List Nat} (h : c ∉ a) : parL c (a ++ c :: b) = (a, b) := by
  unfold parL
  rw [spl_at a h, spl_zero]
  rfl
theorem joinL_cons (p q : List Nat) (r : List (List Nat)) : joinL [32] (p :: q :: r) = p ++ 32 :: joinL [32] (q :: r) := rfl
theorem joinL_all : ∀ {ps : List (List Nat)}, (∀ p ∈ ps, ∀ c ∈ p, isCh c = true) → ∀ c ∈ joinL [32] ps, isCh c = true
  | [], _, c, h => by cases h
  | [p], hp, c, h => hp p List.mem_cons_self c h
  | p :: q :: r, hp, c, h => by
    rw [joinL_cons] at h
    rcases List.mem_append.mp h with h | h
    · exact hp p List.mem_cons_self c h
    · rcases List.mem_cons.mp h with rfl | h
      · rfl
      · exact joinL_all (ps := q :: r) (fun p' h' => hp p' (List.mem_cons_of_mem _ h')) c h
theorem let_ch {c : Nat} (h : c ∈ LET) : isCh c = true := by
  have : ∀ c ∈ LET, isCh c = true := by decide +kernel
  exact this c h
theorem dig_ch {c : Nat} (h : c ∈ DIG) : isCh c = true := by
  have : ∀ c ∈ DIG, isCh c = true := by decide +kernel
  exact this c h
theorem name_let {z : Str} (h : nameB z = true) : (∀ c ∈ z.cps.toList, c ∈ LET) ∧ z.cps.toList ≠ [] ∧ z.length ≤ 6 := by
  unfold nameB at h
  rw [Bool.and_eq_true, Bool.and_eq_true, List.all_eq_true] at h
  have l := of_decide_eq_true h.1.1
  refine ⟨fun c hc => of_decide_eq_true (h.2 c hc), fun e => ?_, l.2⟩
  have e2 : z.cps.toList.length = z.length := Array.length_toList
  rw [e] at e2
  have : (0 : Nat) = z.length := e2
  omega
theorem let_32 {l : List Nat} (h : ∀ c ∈ l, c ∈ LET) : 32 ∉ l := fun z => absurd (h 32 z) (by decide)
theorem dig_32 {l : List Nat} (h : ∀ c ∈ l, c ∈ DIG) : 32 ∉ l := fun z => absurd (h 32 z) (by decide)
theorem readM_of {x : Rec} {wl rl : List Nat} (hw : (wR x).cps.toList = wl ++ 32 :: rl) (h32 : 32 ∉ wl) (hc : ∀ c ∈ (wR x).cps.toList, isCh c = true) (hr : recM (S wl) rl = some x) : readM (wR x).cps.toList = some x := by
  unfold readM chsB
  rw [if_pos (List.all_eq_true.mpr hc), hw, parL_app h32]
  show (match recM (S wl) rl with | none => none | some x => if wR x = S (wl ++ 32 :: rl) then some x else none) = _
  rw [hr]
  show (if wR x = _ then _ else _) = _
  rw [if_pos]
  rw [← hw, S_of]
/-! ### values -/
def aL (a : AV) : List Nat := (aT a).cps.toList
def tkA : AV → List K1.Tok
  | .i n => if n < 0 then [.sign 45, .num n.natAbs] else [.num n.natAbs]
  | .s z => [.str z.cps.toList]
theorem tkA_i (n : Int) : tkA (.i n) = if n < 0 then [.sign 45, .num n.natAbs] else [.num n.natAbs] := rfl
theorem lex_one {t : K1.Tok} {tail : List Nat} {o : Option (List K1.Tok)} (g : good t) (ap : apart t tail) (h : Lex tail o) : Lex (spell t ++ tail) (o.map (t :: ·)) := by
  obtain ⟨c, v, e1, e2, e3⟩ := lex_spell g ap
  rw [e1]
  refine Lex.tok e2 e3 ?_
  rw [← e1]
  have : (spell t ++ tail).drop (spell t).length = tail := List.drop_left' rfl
  rw [this]
  exact h
theorem aL_nat (m : Nat) : aL (.i (m : Nat)) = numT m := rfl
theorem aL_neg {m : Nat} (h : 0 < m) : aL (.i (-((m : Nat) : Int))) = 45 :: numT m := neg_list h
theorem aL_str (z : Str) : aL (.s z) = [34] ++ z.cps.toList ++ [34] := by
  show ((Str.ofString "\"").cps ++ z.cps ++ (Str.ofString "\"").cps).toList = _
  rw [Array.toList_append, Array.toList_append]
  rfl
theorem lex_val {a : AV} (g : aB a = true) {tail : List Nat} {o : Option (List K1.Tok)} (h : Lex tail o) (hs : ∀ c r, tail = c :: r → c = 32) : Lex (aL a ++ tail) (o.map (tkA a ++ ·)) := by
  have ap : ∀ t, apart t tail := fun t => by
    cases t with
    | word _ => exact fun c r e => by rw [hs c r e]; decide
    | num _ => exact fun c r e => by rw [hs c r e]; decide
    | str _ => trivial
    | sign _ => trivial
  cases a with
  | i n =>
    obtain ⟨h1, h2⟩ : -99999 ≤ n ∧ n ≤ 99999 := of_decide_eq_true g
    by_cases hn : n < 0
    · obtain ⟨m, rfl⟩ : ∃ m : Nat, n = -((m : Nat) : Int) := ⟨n.natAbs, by omega⟩
      have l1 := lex_one (t := .num m) (show m ≤ 99999 by omega) (ap _) h
      have l2 := lex_one (t := .sign 45) (show 45 ∈ SGN by decide) trivial l1
      have e : tkA (.i (-((m : Nat) : Int))) = [.sign 45, .num m] := by
        rw [tkA_i, if_pos hn, Int.natAbs_neg]
        rfl
      rw [aL_neg (by omega), e]
      cases o <;> exact l2
    · obtain ⟨m, rfl⟩ : ∃ m : Nat, n = ((m : Nat) : Int) := ⟨n.natAbs, by omega⟩
      have l1 := lex_one (t := .num m) (show m ≤ 99999 by omega) (ap _) h
      have e : tkA (.i ((m : Nat) : Int)) = [.num m] := by
        rw [tkA_i, if_neg hn]
        rfl
      rw [aL_nat, e]
      cases o <;> exact l1
  | s z =>
    have gz : good (.str z.cps.toList) := by
      unfold aB strV at g
      rw [Bool.and_eq_true, List.all_eq_true] at g
      have e2 : z.cps.toList.length = z.length := Array.length_toList
      exact ⟨by rw [e2]; exact of_decide_eq_true g.1, fun c hc => g.2 c hc⟩
    have l1 := lex_one (t := .str z.cps.toList) gz trivial h
    rw [aL_str]
    cases o <;> exact l1
theorem lex_vals : ∀ (ad : List AV), (∀ a ∈ ad, aB a = true) → Lex (joinL [32] (ad.map aL)) (some (ad.flatMap tkA))
  | [], _ => .nil
  | [a], h => by
    have := lex_val (h a List.mem_cons_self) Lex.nil (fun c r e => by cases e)
    rw [List.append_nil] at this
    exact this
  | a :: b :: r, h => by
    have ih := lex_vals (b :: r) fun x hx => h x (List.mem_cons_of_mem _ hx)
    have := lex_val (h a List.mem_cons_self) (Lex.sp ih) (fun c r e => by cases e; rfl)
    exact this
theorem mkAV_tk : ∀ (ad : List AV), mkAV 1 (ad.flatMap tkA) = ad
  | [] => rfl
  | .s z :: r => by
    show AV.s (S z.cps.toList) :: mkAV 1 (r.flatMap tkA) = _
    rw [mkAV_tk r, S_of]
  | .i n :: r => by
    show mkAV 1 (tkA (.i n) ++ r.flatMap tkA) = _
    rw [tkA_i]
    split
    · show AV.i (-1 * ((n.natAbs : Nat) : Int)) :: mkAV 1 (r.flatMap tkA) = _
      rw [mkAV_tk r]
      congr 2
      omega
    · show AV.i (1 * ((n.natAbs : Nat) : Int)) :: mkAV 1 (r.flatMap tkA) = _
      rw [mkAV_tk r]
      congr 2
      omega
theorem valsM_of {ad : List AV} (h : argsB ad = true) : valsM (joinL [32] (ad.map aL)) = some ad := by
  have e := Lex.uni (lexF_ok _ (joinL [32] (ad.map aL)) (Nat.le_refl _)) (lex_vals ad (argsB_sm h).2)
  unfold valsM
  rw [e]
  show (if argsB (mkAV 1 _) = true then some (mkAV 1 _) else none) = _
  rw [mkAV_tk, if_pos h]
theorem numO_of {n m len : Nat} (h : n ≤ m) (hm : m ≤ 99999) (hl : (numT n).length ≤ len) : numO (numT n) m len = some n := by
  obtain ⟨h1, h2, h3, h4⟩ := numT_dig (show n ≤ 99999 by omega)
  unfold numO
  rw [h4, if_pos]
  refine ⟨?_, hl, h⟩
  unfold digB
  rw [S_toList, Bool.and_eq_true, List.all_eq_true]
  refine ⟨?_, fun c hc => decide_eq_true (h3 c hc)⟩
  cases hh : numT n with
  | nil => exact absurd hh h1
  | cons a b => rfl
theorem aL_ch {a : AV} (g : aB a = true) : ∀ c ∈ aL a, isCh c = true := by
  intro c hc
  cases a with
  | i n =>
    obtain ⟨h1, h2⟩ : -99999 ≤ n ∧ n ≤ 99999 := of_decide_eq_true g
    rcases (show n < 0 ∨ 0 ≤ n by omega) with hn | hn
    · obtain ⟨m, rfl⟩ : ∃ m : Nat, n = -((m : Nat) : Int) := ⟨n.natAbs, by omega⟩
      rw [aL_neg (by omega)] at hc
      rcases List.mem_cons.mp hc with rfl | hc
      · rfl
      · exact dig_ch ((numT_dig (show m ≤ 99999 by omega)).2.2.1 c hc)
    · obtain ⟨m, rfl⟩ : ∃ m : Nat, n = ((m : Nat) : Int) := ⟨n.natAbs, by omega⟩
      exact dig_ch ((numT_dig (show m ≤ 99999 by omega)).2.2.1 c hc)
  | s z =>
    rw [aL_str] at hc
    unfold aB strV at g
    rw [Bool.and_eq_true, List.all_eq_true] at g
    rcases List.mem_append.mp hc with hc | hc
    · rcases List.mem_append.mp hc with hc | hc
      · rw [List.mem_singleton.mp hc]; rfl
      · have := g.2 c hc
        unfold mayC at this
        have := of_decide_eq_true this
        exact decide_eq_true ⟨this.1, this.2.1, this.2.2.1⟩
    · rw [List.mem_singleton.mp hc]; rfl
/-! ### whole records -/
/-- a record that can be drawn -/
def RecOK : Rec → Prop
  | .ent xs => xs = ([Str.ofString "a"] : List Str) ∨ xs = [Str.ofString "a", Str.ofString "b"] ∨ xs = [Str.ofString "b", Str.ofString "a", Str.ofString "c"]
  | .txt m t => nameB m = true ∧ t.length ≤ 600 ∧ ∀ c ∈ t.cps.toList, c = 10 ∨ (isCh c = true ∧ c ≠ 124)
  | .rem m => nameB m = true
  | .upd n => n ≤ 8
  | .call h n m f ad => h ≤ 2 ∧ n ≤ 9999 ∧ nameB m = true ∧ nameB f = true ∧ argsB ad = true
def partL : Rec → List (List Nat)
  | .ent xs => xs.map fun z => z.cps.toList
  | .txt m t => [m.cps.toList, t.cps.toList.map fun d => if d = 10 then 124 else d]
  | .rem m => [m.cps.toList]
  | .upd n => [numT n]
  | .call h n m f ad => numT h :: numT n :: m.cps.toList :: f.cps.toList :: ad.map aL
theorem repl_to (t : Str) : (Txt.replace t "\n" "|").cps.toList = t.cps.toList.map fun d => if d = 10 then 124 else d := by
  have := repl_list t.cps.toList 10 124
  rw [S_of] at this
  exact congrArg (fun z : Str => z.cps.toList) this
theorem parts_list (x : Rec) : (partsR x).map (fun z => z.cps.toList) = (wordR x).cps.toList :: partL x := by
  cases x with
  | ent xs => rfl
  | txt m t => show [_, _, (Txt.replace t "\n" "|").cps.toList] = _; rw [repl_to]; rfl
  | rem m => rfl
  | upd n => rfl
  | call h n m f ad => show _ :: _ :: _ :: _ :: _ :: List.map _ (ad.map aT) = _; rw [List.map_map]; rfl
theorem partL_ne {x : Rec} (h : RecOK x) : partL x ≠ [] := by
  cases x with
  | ent xs => rcases h with rfl | rfl | rfl <;> exact fun z => by cases z
  | txt m t => exact fun z => by cases z
  | rem m => exact fun z => by cases z
  | upd n => exact fun z => by cases z
  | call h n m f ad => exact fun z => by cases z
theorem word_32 (x : Rec) : 32 ∉ (wordR x).cps.toList := by
  cases x
  · show 32 ∉ (Str.ofString "entries").cps.toList; decide +kernel
  · show 32 ∉ (Str.ofString "text").cps.toList; decide +kernel
  · show 32 ∉ (Str.ofString "remove").cps.toList; decide +kernel
  · show 32 ∉ (Str.ofString "update").cps.toList; decide +kernel
  · show 32 ∉ (Str.ofString "call").cps.toList; decide +kernel
theorem wR_split {x : Rec} (h : partL x ≠ []) : (wR x).cps.toList = (wordR x).cps.toList ++ 32 :: joinL [32] (partL x) := by
  rw [wR_list, parts_list]
  cases hp : partL x with
  | nil => exact absurd hp h
  | cons a b => rfl
theorem word_ch (x : Rec) : ∀ c ∈ (wordR x).cps.toList, isCh c = true := by
  cases x
  · show ∀ c ∈ (Str.ofString "entries").cps.toList, isCh c = true; decide +kernel
  · show ∀ c ∈ (Str.ofString "text").cps.toList, isCh c = true; decide +kernel
  · show ∀ c ∈ (Str.ofString "remove").cps.toList, isCh c = true; decide +kernel
  · show ∀ c ∈ (Str.ofString "update").cps.toList, isCh c = true; decide +kernel
  · show ∀ c ∈ (Str.ofString "call").cps.toList, isCh c = true; decide +kernel
theorem partL_ch {x : Rec} (h : RecOK x) : ∀ p ∈ partL x, ∀ c ∈ p, isCh c = true := by
  cases x with
  | ent xs =>
    rcases h with rfl | rfl | rfl <;> (show ∀ p ∈ _, ∀ c ∈ p, isCh c = true) <;> decide +kernel
  | txt m t =>
    obtain ⟨h1, h2, h3⟩ := h
    intro p hp c hc
    rcases List.mem_cons.mp hp with rfl | hp
    · exact let_ch ((name_let h1).1 c hc)
    · rw [List.mem_singleton.mp hp] at hc
      obtain ⟨d, hd, rfl⟩ := List.mem_map.mp hc
      show isCh (if d = 10 then 124 else d) = true
      by_cases e : d = 10
      · rw [if_pos e]; rfl
      · rw [if_neg e]
        exact ((h3 d hd).resolve_left e).1
  | rem m =>
    intro p hp c hc
    rw [List.mem_singleton.mp hp] at hc
    exact let_ch ((name_let h).1 c hc)
  | upd n =>
    intro p hp c hc
    rw [List.mem_singleton.mp hp] at hc
    exact dig_ch ((numT_dig (show n ≤ 99999 by have : n ≤ 8 := h; omega)).2.2.1 c hc)
  | call hh n m f ad =>
    obtain ⟨h1, h2, h3, h4, h5⟩ := h
    intro p hp c hc
    rcases List.mem_cons.mp hp with rfl | hp
    · exact dig_ch ((numT_dig (show hh ≤ 99999 by omega)).2.2.1 c hc)
    rcases List.mem_cons.mp hp with rfl | hp
    · exact dig_ch ((numT_dig (show n ≤ 99999 by omega)).2.2.1 c hc)
    rcases List.mem_cons.mp hp with rfl | hp
    · exact let_ch ((name_let h3).1 c hc)
    rcases List.mem_cons.mp hp with rfl | hp
    · exact let_ch ((name_let h4).1 c hc)
    obtain ⟨a, ha, rfl⟩ := List.mem_map.mp hp
    exact aL_ch ((argsB_sm h5).2 a ha) c hc
theorem callM_of {h n : Nat} {m f : Str} {ad : List AV} (h1 : h ≤ 2) (h2 : n ≤ 9999) (h3 : nameB m = true) (h4 : nameB f = true) (h5 : argsB ad = true) :
    callM (joinL [32] (numT h :: numT n :: m.cps.toList :: f.cps.toList :: ad.map aL)) = some (.call h n m f ad) := by
  have d1 := numT_dig (show h ≤ 99999 by omega)
  have d2 := numT_dig (show n ≤ 99999 by omega)
  have n1 := dig_32 d1.2.2.1
  have n2 := dig_32 d2.2.2.1
  have n3 := let_32 (name_let h3).1
  have n4 := let_32 (name_let h4).1
  have l1 : (numT h).length ≤ 1 := by
    rw [numT_eq, List.length_map]
    exact digits_len 0 h (by omega)
  have l2 : (numT n).length ≤ 4 := by
    rw [numT_eq, List.length_map]
    exact digits_len 3 n (by omega)
  have q : ∀ o, o = some ad → callN (numT h) (numT n) m.cps.toList f.cps.toList o = some (.call h n m f ad) := fun o eo => by
    unfold callN
    rw [S_of, S_of, h3, h4, numO_of h1 (by decide) l1, numO_of h2 (by decide) l2, eo]
    rfl
  unfold callM
  rw [joinL_cons, joinL_cons, joinL_cons, spl_at _ n1, spl_at _ n2, spl_at _ n3]
  cases had : ad with
  | nil =>
    have e4 : spl 32 1 (joinL [32] (f.cps.toList :: List.map aL [])) [] = [[] ++ f.cps.toList] := spl_end _ n4
    rw [e4]
    rw [had] at q
    exact q _ rfl
  | cons a r =>
    rw [List.map_cons, joinL_cons, spl_at _ n4, spl_zero]
    have := valsM_of h5
    rw [had] at this q
    rw [List.map_cons] at this
    exact q _ this
theorem read_back {x : Rec} (h : RecOK x) : readM (wR x).cps.toList = some x := by
  refine readM_of (wR_split (partL_ne h)) (word_32 x) (fun c hc => ?_) ?_
  · rw [wR_split (partL_ne h)] at hc
    rcases List.mem_append.mp hc with hc | hc
    · exact word_ch x c hc
    · rcases List.mem_cons.mp hc with rfl | hc
      · rfl
      · exact joinL_all (partL_ch h) c hc
  · rw [S_of]
    cases x with
    | ent xs =>
      rcases h with rfl | rfl | rfl
      · rfl
      · rfl
      · rfl
    | txt m t =>
      obtain ⟨h1, h2, h3⟩ := h
      show recM "text" (m.cps.toList ++ 32 :: t.cps.toList.map fun d => if d = 10 then 124 else d) = _
      show textM _ = _
      unfold textM
      rw [parL_app (let_32 (name_let h1).1)]
      show (if nameB (S m.cps.toList) = true ∧ (t.cps.toList.map _).length ≤ 600 then some (Rec.txt (S m.cps.toList) (S ((t.cps.toList.map _).map _))) else none) = _
      have e2 : t.cps.toList.length = t.length := Array.length_toList
      rw [S_of, if_pos ⟨h1, by rw [List.length_map, e2]; exact h2⟩, List.map_map]
      have : ∀ l : List Nat, (∀ c ∈ l, c = 10 ∨ (isCh c = true ∧ c ≠ 124)) → l.map ((fun d => if d = 124 then 10 else d) ∘ fun d => if d = 10 then 124 else d) = l := fun l => by
        induction l with
        | nil => exact fun _ => rfl
        | cons c r ih =>
          intro hl
          rw [List.map_cons, ih fun d hd => hl d (List.mem_cons_of_mem _ hd)]
          congr 1
          show (if (if c = 10 then 124 else c) = 124 then 10 else (if c = 10 then 124 else c)) = c
          by_cases e : c = 10
          · rw [if_pos e, if_pos rfl, e]
          · rw [if_neg e, if_neg ((hl c List.mem_cons_self).resolve_left e).2]
      rw [this _ h3, S_of]
    | rem m =>
      show (if nameB (S m.cps.toList) = true then some (Rec.rem (S m.cps.toList)) else none) = _
      rw [S_of, if_pos (show nameB m = true from h)]
    | upd n =>
      have hn : n ≤ 8 := h
      show (match numO (numT n) 8 1 with | none => none | some n => some (Rec.upd n)) = _
      rw [numO_of hn (by decide) (by rw [numT_eq, List.length_map]; exact digits_len 0 n (by omega))]
    | call hh n m f ad =>
      obtain ⟨h1, h2, h3, h4, h5⟩ := h
      exact callM_of h1 h2 h3 h4 h5
end K6

set_option maxRecDepth 100000
set_option maxHeartbeats 4000000
/-! what is not read -/
namespace K6
open PySem hiding Tok code
open PySem.Spec PyProof.Rows GD K1
open L2 hiding rest
open TL (joinL tl_join)
def WF : Rec → Prop
  | .ent xs => xs ≠ [] ∧ ∀ z ∈ xs, nameB z = true
  | .txt _ _ => True
  | .rem m => nameB m = true
  | .upd n => n ≤ 8
  | .call _ _ _ f ad => nameB f = true ∧ ∀ y ∈ ad, aB y = true
def isTxt : Rec → Bool
  | .txt _ _ => true
  | _ => false
theorem callN_wf {a b m f : List Nat} {o : Option (List AV)} {x : Rec} (h : callN a b m f o = some x) (ho : ∀ ad, o = some ad → argsB ad = true) : WF x ∧ isTxt x = false := by
  unfold callN at h
  split at h
  · rename_i h0
    rw [Bool.and_eq_true] at h0
    split at h
    · cases h
    · split at h
      · cases h
      · split at h
        · cases h
        · rename_i ad
          cases h
          exact ⟨⟨h0.2, (argsB_sm (ho ad rfl)).2⟩, rfl⟩
  · cases h
theorem recM_wf {w : Str} {L : List Nat} {x : Rec} (h : recM w L = some x) (nw : w ≠ "text") : WF x ∧ isTxt x = false := by
  unfold recM at h
  split at h
  · unfold entM at h
    split at h
    · rename_i h2
      cases h
      rw [Bool.and_eq_true] at h2
      unfold namsB at h2
      rw [Bool.and_eq_true, Bool.and_eq_true, List.all_eq_true] at h2
      refine ⟨⟨fun e => ?_, fun z hz => h2.2.2 z hz⟩, rfl⟩
      have := of_decide_eq_true h2.1
      rw [e] at this
      exact absurd this (by decide)
    · cases h
  split at h
  · split at h
    · rename_i e
      cases h
      exact ⟨e, rfl⟩
    · cases h
  split at h
  · split at h
    · cases h
    · rename_i n e
      cases h
      unfold numO at e
      split at e
      · rename_i z
        cases e
        exact ⟨z.2.2, rfl⟩
      · cases e
  split at h
  · unfold callM at h
    split at h
    · exact callN_wf h fun ad e => by cases e; rfl
    · exact callN_wf h valsM_ok
    · cases h
  · cases h
theorem joinL_last : ∀ (qs : List (List Nat)) (p : List Nat), ∃ pre, joinL [32] (qs ++ [p]) = pre ++ p
  | [], p => ⟨[], rfl⟩
  | [q], p => ⟨q ++ [32], by show q ++ 32 :: p = _; rw [List.append_assoc]; rfl⟩
  | q :: r :: s, p => by
    obtain ⟨pre, e⟩ := joinL_last (r :: s) p
    refine ⟨q ++ 32 :: pre, ?_⟩
    show q ++ 32 :: joinL [32] ((r :: s) ++ [p]) = _
    rw [e, List.append_assoc]
    rfl
theorem noblank {p : List Nat} (h : p ≠ []) (n : 32 ∉ p) {pre l : List Nat} (e : pre ++ p = l ++ [32]) : False := by
  have h1 := congrArg List.getLast? e
  rw [List.getLast?_concat, List.getLast?_append, List.getLast?_eq_some_getLast h] at h1
  have h2 : p.getLast h = 32 := Option.some.inj h1
  exact n (h2 ▸ List.getLast_mem h)
theorem wf_last {x : Rec} (h : WF x) (nt : isTxt x = false) {l : List Nat} (e : (wR x).cps.toList = l ++ [32]) : False := by
  have key : ∀ qs p, partL x = qs ++ [p] → p ≠ [] → 32 ∉ p → False := fun qs p hp h1 h2 => by
    obtain ⟨pre, hq⟩ := joinL_last ((wordR x).cps.toList :: qs) p
    rw [wR_list, parts_list, hp] at e
    exact noblank h1 h2 (hq.symm.trans e)
  cases x with
  | ent xs =>
    obtain ⟨h1, h2⟩ := h
    rcases List.eq_nil_or_concat xs with rfl | ⟨ys, z, rfl⟩
    · exact h1 rfl
    · have nz := name_let (h2 z (by simp))
      exact key (ys.map fun z => z.cps.toList) z.cps.toList (by show List.map _ _ = _; simp) nz.2.1 (let_32 nz.1)
  | txt m t => cases nt
  | rem m =>
    have nz := name_let (show nameB m = true from h)
    exact key [] _ rfl nz.2.1 (let_32 nz.1)
  | upd n =>
    have hn : n ≤ 8 := h
    have d := numT_dig (show n ≤ 99999 by omega)
    exact key [] _ rfl d.1 (dig_32 d.2.2.1)
  | call hh n m f ad =>
    obtain ⟨h1, h2⟩ := h
    rcases List.eq_nil_or_concat ad with rfl | ⟨ys, a, rfl⟩
    · have nz := name_let h1
      exact key [numT hh, numT n, m.cps.toList] _ rfl nz.2.1 (let_32 nz.1)
    · have ha := h2 a (by simp)
      have k2 : ∀ b p, aL a = b ++ p → p ≠ [] → 32 ∉ p → False := fun b p hb h3 h4 => by
        obtain ⟨pre, hq⟩ := joinL_last ((wordR (.call hh n m f (ys.concat a))).cps.toList :: numT hh :: numT n :: m.cps.toList :: f.cps.toList :: ys.map aL) (aL a)
        rw [wR_list, parts_list] at e
        have e9 : partL (.call hh n m f (ys.concat a)) = numT hh :: numT n :: m.cps.toList :: f.cps.toList :: (ys.map aL ++ [aL a]) := by
          show _ :: _ :: _ :: _ :: List.map aL (ys.concat a) = _
          simp
        rw [e9] at e
        have e10 := hq.symm.trans e
        rw [hb, ← List.append_assoc] at e10
        exact noblank h3 h4 e10
      cases a with
      | i k =>
        obtain ⟨r1, r2⟩ : -99999 ≤ k ∧ k ≤ 99999 := of_decide_eq_true ha
        rcases (show k < 0 ∨ 0 ≤ k by omega) with hn | hn
        · obtain ⟨j, rfl⟩ : ∃ j : Nat, k = -((j : Nat) : Int) := ⟨k.natAbs, by omega⟩
          have d := numT_dig (show j ≤ 99999 by omega)
          exact k2 [45] (numT j) (aL_neg (by omega)) d.1 (dig_32 d.2.2.1)
        · obtain ⟨j, rfl⟩ : ∃ j : Nat, k = ((j : Nat) : Int) := ⟨k.natAbs, by omega⟩
          have d := numT_dig (show j ≤ 99999 by omega)
          exact k2 [] (numT j) rfl d.1 (dig_32 d.2.2.1)
      | s z => exact k2 ([34] ++ z.cps.toList) [34] (aL_str z) (by simp) (by decide)
theorem readM_some {L : List Nat} {x : Rec} (h : readM L = some x) : chsB L = true ∧ recM (S (parL 32 L).1) (parL 32 L).2 = some x ∧ wR x = S L := by
  unfold readM at h
  split at h
  · rename_i h1
    split at h
    · cases h
    · rename_i y e
      split at h
      · rename_i e2
        cases h
        exact ⟨h1, e, e2⟩
      · cases h
  · cases h
theorem readM_sm {L : List Nat} {x : Rec} (hl : L.length ≤ 5000) (h : readM L = some x) : RecSm x :=
  recM_sm (Nat.le_trans (parL_mem 32 L).2.2 hl) (readM_some h).2.1
theorem word_text {x : Rec} (h : isTxt x = false) : wordR x ≠ "text" := by
  cases x with
  | ent _ => exact (by decide : (Str.ofString "entries") ≠ Str.ofString "text")
  | txt _ _ => cases h
  | rem _ => exact (by decide : (Str.ofString "remove") ≠ Str.ofString "text")
  | upd _ => exact (by decide : (Str.ofString "update") ≠ Str.ofString "text")
  | call _ _ _ _ _ => exact (by decide : (Str.ofString "call") ≠ Str.ofString "text")
theorem read_blank {x : Rec} (h : RecOK x) (nt : isTxt x = false) : readM ((wR x).cps.toList ++ [32]) = none := by
  cases e : readM ((wR x).cps.toList ++ [32]) with
  | none => rfl
  | some y =>
    obtain ⟨_, h2, h3⟩ := readM_some e
    have ep : ((wR x).cps.toList ++ [32]) = (wordR x).cps.toList ++ 32 :: (joinL [32] (partL x) ++ [32]) := by
      rw [wR_split (partL_ne h), List.append_assoc]
      rfl
    rw [ep, parL_app (word_32 x), S_of] at h2
    obtain ⟨w1, w2⟩ := recM_wf h2 (word_text nt)
    exact (wf_last w1 w2 (congrArg (fun z : Str => z.cps.toList) h3)).elim
theorem blank_read (l : List Nat) : readM (32 :: l) = none := by
  cases e : readM (32 :: l) with
  | none => rfl
  | some y =>
    obtain ⟨_, h2, h3⟩ := readM_some e
    have ep : parL 32 (32 :: l) = ([], l) := parL_app (a := []) (by simp)
    rw [ep] at h2
    unfold recM at h2
    rw [if_neg (show ¬ S [] = Str.ofString "entries" by decide), if_neg (show ¬ S [] = Str.ofString "text" by decide), if_neg (show ¬ S [] = Str.ofString "remove" by decide), if_neg (show ¬ S [] = Str.ofString "update" by decide), if_neg (show ¬ S [] = Str.ofString "call" by decide)] at h2
    cases h2
def badT : List Str := ["text", "text a", "entries a a", "update 9", "call 3 0 a f", "call 0 0 a f 1 2 3 4", "call 0 0 a f -0", "remove if",
  S (("text a " : Str).cps.toList ++ List.replicate 601 120), "entries", "entries a b c d", "entries let", "text A x", "update 01", "call 0 10000 a f", "call 0 0 a f 100000", "call 0 0 a f \"x",
  S (("call 0 0 a f \"" : Str).cps.toList ++ List.replicate 21 120 ++ [34]), "entries a ", "call 0 0 a"]
theorem bad_read : ∀ z ∈ badT, (readM z.cps.toList).isNone = true := by decide +kernel
end K6

set_option maxRecDepth 100000
set_option maxHeartbeats 4000000
/-! call_of -/
namespace K6
open PySem hiding Tok code
open PySem.Spec PyProof.Rows GD K1
open L2 hiding rest
abbrev sCallOf : Stmt := topS 61
theorem op_inDT {X : Cx} (hu : X.A.units + 65 < cLine) : OpR X (compareOp .In) (fun x y H Q => ∃ d ds, Dp X.K H x d ∧ Dp X.K H y (.tuple ds) ∧ SeqAt.shaped d = true ∧ SeqAt.shaped (.tuple ds) = true ∧ Q (.bl (ds.any fun z => PyData.eqv z d)) H) := by
  intro pins s σ H x y v u Q I rx ry h
  obtain ⟨d, ds, hd, he, sd, se, q⟩ := h
  obtain ⟨as, r1⟩ := Dp.reads I d x v hd rx
  obtain ⟨bs, r2⟩ := Dp.reads I (.tuple ds) y u he ry
  exact SeqAt.in_tuple_reads r2 r1 (SeqAt.canLay_of_shaped se) (SeqAt.canLay_of_shaped sd) (room_in_shaped sd hu) ⟨.bl _, H, I, rfl, q⟩
/-- None, or a number -/
def oV : Option Nat → V
  | none => .non
  | some n => .int (n : Nat)
def oD : Option Nat → PyData
  | none => .none
  | some n => .int (n : Nat)
theorem numB_O (L : List Nat) (m len : Nat) : numB (S L) (m : Nat) len = oV (numO L m len) := by
  unfold numB numO
  rw [S_toList, S_len]
  by_cases h : digB (S L) = true ∧ L.length ≤ len ∧ val L ≤ m
  · rw [if_pos h, if_pos ⟨h.1, h.2.1, by omega⟩]
    rfl
  · rw [if_neg h, if_neg fun z => h ⟨z.1, z.2.1, by omega⟩]
    rfl
theorem oD_dp {K : PySem.W.Frag} {H : Hp} (o : Option Nat) : Dp K H (oV o) (oD o) := by
  cases o with
  | none => exact .non
  | some n => exact .int _
/-- arguments, or None -/
def ArgV (H : Hp) (v : V) : Option (List AV) → Prop
  | none => v = .non
  | some ad => ∃ a, v = .ref a ∧ H a = some (.tup (ad.map aV))
def agD : Option (List AV) → PyData
  | none => .none
  | some ad => .tuple (ad.map aD)
theorem agD_dp {K : PySem.W.Frag} {H : Hp} {v : V} {o : Option (List AV)} (h : ArgV H v o) : Dp K H v (agD o) := by
  cases o with
  | none => rw [show v = .non from h]; exact .non
  | some ad =>
    obtain ⟨a, rfl, e⟩ := h
    exact .tup (SqT.of e) (TDs.dp (aD_td ad))
/-- numbers and texts of the language can be laid -/
theorem aB_fit {x : AV} (h : aB x = true) : Fit (aD x) 0 202 := by
  cases x with
  | i n =>
    obtain ⟨h1, h2⟩ : -99999 ≤ n ∧ n ≤ 99999 := of_decide_eq_true h
    refine ⟨?_, by simp only [aD, PyData.hasDict], by simp only [aD, PyData.depth]; omega, ?_, by simp only [aD, PyData.canLay0]⟩
    · simp only [aD, PyData.showable]
      exact decide_eq_true (aT_len h).1
    · have := (aT_len (x := .i n) h).2
      simp only [aD, PyData.shown]
      rcases (show n < 0 ∨ 0 ≤ n by omega) with hn | hn
      · obtain ⟨m, rfl⟩ : ∃ m : Nat, n = -((m : Nat) : Int) := ⟨n.natAbs, by omega⟩
        have e := congrArg List.length (neg_list (n := m) (by omega))
        rw [Array.length_toList, List.length_cons] at e
        have := (numT_dig (show m ≤ 99999 by omega)).2.1
        show (Str.ofString (toString (-((m : Nat) : Int)))).cps.size ≤ 202
        omega
      · obtain ⟨m, rfl⟩ : ∃ m : Nat, n = ((m : Nat) : Int) := ⟨n.natAbs, by omega⟩
        have := (Fit.num (n := m) (by omega)).ln
        simp only [PyData.shown] at this
        omega
  | s z =>
    unfold aB strV at h
    rw [Bool.and_eq_true, List.all_eq_true] at h
    refine Fit.str (n := 20) (of_decide_eq_true h.1) fun c hc => ?_
    have := h.2 c hc
    unfold mayC at this
    have := of_decide_eq_true this
    omega
theorem ag_sh {o : Option (List AV)} (h : ∀ ad, o = some ad → argsB ad = true) : Fit (agD o) 1 1000 := by
  cases o with
  | none => exact Fit.none.more (by decide) (by decide)
  | some ad =>
    have q := argsB_sm (h ad rfl)
    have := Fit.tup (ds := ad.map aD) (k := 0) (B := 202) fun d hd => by
      obtain ⟨x, hx, rfl⟩ := List.mem_map.mp hd
      exact aB_fit (q.2 x hx)
    refine this.more (by decide) ?_
    rw [List.length_map]
    have := q.1
    omega
theorem od_sh {o : Option Nat} (h : ∀ n, o = some n → n ≤ 99999) : Fit (oD o) 1 1000 := by
  cases o with
  | none => exact Fit.none.more (by decide) (by decide)
  | some n => exact (Fit.num (h n rfl)).more (by decide) (by decide)
theorem numO_le {L : List Nat} {m len : Nat} : ∀ n, numO L m len = some n → n ≤ m := by
  intro n h
  unfold numO at h
  split at h
  · rename_i z
    cases h
    exact z.2.2
  · cases h
theorem Fit.shaped {d : PyData} {k B : Nat} (f : Fit d k B) (h : k ≤ 64) : SeqAt.shaped d = true := by
  unfold SeqAt.shaped
  rw [f.cl, decide_eq_true (Nat.le_trans f.dp h)]
  rfl
section
variable {P : Program} {w : World} {K : PySem.W.Frag} {mg : Str → Option Value} {base : Heap} {PN PV : Addr}
def callR (oh on : Option Nat) (m f : Str) (o : Option (List AV)) : Option Rec := match oh with | none => none | some h => match on with | none => none | some n => match o with | none => none | some ad => some (.call h n m f ad)
theorem callN_R {a b m f : List Nat} {o : Option (List AV)} (hm : nameB (S m) = true) (hf : nameB (S f) = true) : callN a b m f o = callR (numO a 2 1) (numO b 9999 4) (S m) (S f) o := by
  unfold callN
  rw [hm, hf]
  rfl
def callP : List (List Nat) → Option Rec
  | [a, b, m, f] => callN a b m f (some [])
  | [a, b, m, f, g] => callN a b m f (valsM g)
  | _ => none
def spCallOf (PN PV : Addr) : L2.Sp := fun vs H Q _ => ∃ L : List Nat, vs = [.str (S L)] ∧ L.length ≤ 5000 ∧ (∀ c ∈ L, c < 128) ∧ T2 PN PV H ∧
  ∀ H', ST PN PV H H' → (callM L = none → Q .non H') ∧ ∀ x r, callM L = some x → RecAt H' r x → Q (.ref r) H'
theorem scCallOf : FnScope ["rest", "parts", "holder", "number", "arguments"] ["rest"] (defScope sCallOf) := ⟨rfl, rfl, rfl, by decide +kernel, rfl, by decide +kernel, by decide +kernel⟩
theorem ok_callOf {f f1 f2 f3 : Addr} {fd fd1 fd2 fd3 : FuncData} (F : Fun K "call_of" "call_of" sCallOf f fd) (T : Txt K mg) (ne : PN ≠ PV)
    (TH : ∃ t, mg "HOLDERS_MOST" = some (.int 3 t)) (TC : ∃ t, mg "COUNT_MOST" = some (.int 9999 t))
    (FN : FO P w K mg base CX0 1 "is_name" ["text"] (spName PN) f1 fd1) (FO_ : FO P w K mg base CX0 1 "number_of" ["text", "most"] spNumOf f2 fd2) (FV : FO P w K mg base CX0 6 "values_of" ["text"] (spValsOf PN PV) f3 fd3) : FnOk P w K mg base CX0 7 f fd ["rest"] (spCallOf PN PV) := by
  have sc := scCallOf
  have T3 := T
  obtain ⟨t1, gHM⟩ := TH
  obtain ⟨t2, gCM⟩ := TC
  refine F.ok sc (fun vs H Q E h => ?_) (fun cdv A outer s H vs Q E hr h => ?_)
  · obtain ⟨L, rfl, _⟩ := h
    rfl
  · obtain ⟨L, rfl, hl, ha, t2, q⟩ := h
    have hu65 : (A.deeper (envOfC "call_of" (defScope sCallOf) s.heap.objs.size f cdv)).units + 65 < cLine := by have := hr.un; omega
    refine ⟨_, (pss_cons (ps_set (i := 1) sc.nd rfl (Or.inl rfl) (pe_bm PySem.F.plainAttrs_str PySem.F.slot_str_split PySem.F.type_str_split mt_splitMax (pv 0) (pa_cons pe_str (pa_cons pe_int pa_nil))))
      (pss_cons (ps_if (PW.pt (pw_or (pt_cmpR op_lt (pe_callB call_len_seq (by rfl) T.len (by decide +kernel) (pa_cons (pv 1) pa_nil)) pe_int (nomark _)) (pw_or (pt_not (pt_val (pe_call FN.ok (hr.mono (by decide)) (by rfl) FN.m FN.kp FN.b .nil pass0 (pa_cons (pe_ix ix_list (pv 1) pe_int (fun _ _ => rfl)) pa_nil)))) (pw_or1 (pt_not (pt_val (pe_call FN.ok (hr.mono (by decide)) (by rfl) FN.m FN.kp FN.b .nil pass0 (pa_cons (pe_ix ix_list (pv 1) pe_int (fun _ _ => rfl)) pa_nil))))))))
      (pss_one (ps_ret pe_non))
      pss_nil)
      (pss_cons (ps_par (i := 2) (j := 3) (by rfl) sc.nd rfl rfl (by decide) rfl rfl (pa_cons (pe_call FO_.ok (hr.mono (by decide)) (by rfl) FO_.m FO_.kp FO_.b .nil pass0 (pa_cons (pe_ix ix_list (pv 1) pe_int (fun _ _ => rfl)) (pa_cons (pe_op op_sub (pe_gint rfl gHM) pe_int) pa_nil))) (pa_cons (pe_call FO_.ok (hr.mono (by decide)) (by rfl) FO_.m FO_.kp FO_.b .nil pass0 (pa_cons (pe_ix ix_list (pv 1) pe_int (fun _ _ => rfl)) (pa_cons (pe_gint rfl gCM) pa_nil))) pa_nil)) (by rfl))
      (pss_cons (ps_set (i := 4) sc.nd rfl (Or.inl rfl) (pe_ifExp (pt_cmpR op_eq (pe_callB call_len_seq (by rfl) T.len (by decide +kernel) (pa_cons (pv 1) pa_nil)) pe_int (nomark _)) (pe_call FV.ok hr (by rfl) FV.m FV.kp FV.b .nil pass0 (pa_cons (pe_ix ix_list (pv 1) pe_int (fun _ _ => rfl)) pa_nil)) (pe_tup pa_nil)))
      (pss_cons (ps_if (pt_cmpR (op_inDT hu65) pe_non (pe_tup (pa_cons (pv 2) (pa_cons (pv 3) (pa_cons (pv 4) pa_nil)))) rfl)
      (pss_one (ps_ret pe_non))
      pss_nil)
      (pss_one (ps_ret (pe_tup (pa_cons pe_str (pa_cons (pv 2) (pa_cons (pv 3) (pa_cons (pe_ix ix_list (pv 1) pe_int (fun _ _ => rfl)) (pa_cons (pe_ix ix_list (pv 1) pe_int (fun _ _ => rfl)) (pa_cons (pv 4) pa_nil)))))))))))))), ?_⟩
    have sl : Txt.splitMax (S L) (Str.ofString " ") 4 = (spl 32 4 L []).map S := splitMax_list L (by decide) 4
    have pm := spl_mem 32 L 4 []
    have pc := spl_count 32 L 4 []
    have pl : ∀ p ∈ spl 32 4 L [], p.length ≤ 5000 ∧ ∀ c ∈ p, c < 128 := fun p hp => ⟨by have := (pm p hp).2; rw [List.length_nil] at this; omega, fun c hc => ha c (((pm p hp).1 c hc).elim (fun z => (by cases z)) id)⟩
    refine ⟨_, rfl, rfl, _, _, _, rfl, rfl, rfl, (by decide), (by decide), Nat.le_trans (m := 6000) (by rw [S_len]; omega) (by decide), fun D nD => ?_⟩
    rw [sl]
    obtain ⟨ps, hps⟩ : ∃ ps, ps = spl 32 4 L [] := ⟨_, rfl⟩
    rw [← hps] at pl pc sl ⊢
    have s1 := Same.lst (o := .lst ((ps.map S).map V.str)) (Same.refl H) nD
    have eD : upd H D (.lst ((ps.map S).map V.str)) D = some (.lst ((ps.map S).map V.str)) := upd_same
    generalize upd H D (.lst ((ps.map S).map V.str)) = H1 at *
    have lps : ((ps.map S).map V.str).length = ps.length := by rw [List.length_map, List.length_map]
    have st1 := t2.st s1
    have it : ∀ {H' : Hp} {i : Nat} {p : List Nat}, ST PN PV H1 H' → ps[i]? = some p → SqL K H' D ((ps.map S).map V.str) ∧ atI ((ps.map S).map V.str) (i : Int) = some (.str (S p)) := fun s e => ⟨SqL.of (s.k _ _ (fun _ z => by cases z) eD), atI_nat (by rw [List.getElem?_map, List.getElem?_map, e]; rfl)⟩
    have ec : callM L = callP ps := by rw [hps]; rfl
    refine gn ?_
    refine nxp ?_
    refine ⟨_, rfl, D, _, rfl, .inl (SqL.of eD), _, _, rfl, rfl, _, rfl, ?_⟩
    rw [lps]
    refine ite2 (fun h => ?_) (fun h => ?_)
    · have h := of_decide_eq_true h
      refine (q _ st1).1 ?_
      rw [ec]
      rcases ps with _ | ⟨a, _ | ⟨b, _ | ⟨m, _ | ⟨f, r⟩⟩⟩⟩ <;> first | rfl | (exfalso; simp only [List.length_cons] at h; omega)
    · have h4 : 4 ≤ ps.length := by
        have : ¬ ((ps.length : Int) < 4) := fun z => h (decide_eq_true z)
        omega
      obtain ⟨a, b, m, f, r, rfl, hr1⟩ : ∃ a b m f r, ps = a :: b :: m :: f :: r ∧ r.length ≤ 1 := by
        rcases ps with _ | ⟨a, _ | ⟨b, _ | ⟨m, _ | ⟨f, r⟩⟩⟩⟩
        · exact absurd h4 (by simp)
        · exact absurd h4 (by simp)
        · exact absurd h4 (by simp)
        · exact absurd h4 (by simp)
        · exact ⟨a, b, m, f, r, rfl, by have := pc.2; simp only [List.length_cons] at this; omega⟩
      have r1 := st1.t.st (Same.refl H1)
      have small : ∀ p ∈ a :: b :: m :: f :: r, (S p).length ≤ 5000 := fun p hp => by rw [S_len]; exact (pl p hp).1
      refine ⟨_, rfl, D, _, _, _, rfl, rfl, (it r1 (i := 2) rfl).1, (it r1 (i := 2) rfl).2, S m, rfl, small m (by simp), st1.t.n, fun H2 k2 => ?_⟩
      have s2 := st1.t.kpN ne k2
      have bad : (nameB (S m) && nameB (S f)) = false → callM L = none := fun hb => by
        have : ∀ o, callN a b m f o = none := fun o => by unfold callN; rw [hb]; rfl
        rw [ec]
        rcases r with _ | ⟨g, _ | ⟨e, r⟩⟩
        · exact this (some [])
        · exact this (valsM g)
        · rfl
      cases hm : nameB (S m) with
      | false => exact ⟨_, rfl, (q _ (st1.trans s2)).1 (bad (by rw [hm]; rfl))⟩
      | true =>
      refine ⟨_, rfl, iteF ?_⟩
      refine ⟨_, rfl, D, _, _, _, rfl, rfl, (it s2 (i := 3) rfl).1, (it s2 (i := 3) rfl).2, S f, rfl, small f (by simp), s2.t.n, fun H3 k3 => ?_⟩
      have s3 := s2.trans (s2.t.kpN ne k3)
      cases hf : nameB (S f) with
      | false => exact ⟨_, rfl, (q _ (st1.trans s3)).1 (bad (by rw [hm, hf]; rfl))⟩
      | true =>
      refine ⟨_, rfl, ?_⟩
      refine iteF ?_
      have ca : ∀ p ∈ a :: b :: m :: f :: r, ∀ c ∈ (S p).cps.toList, c < 128 := fun p hp => (pl p hp).2
      have d1 : (Str.ofString (toString ((2 : Nat) : Int))).length = 1 := by decide +kernel
      have d2 : (Str.ofString (toString ((9999 : Nat) : Int))).length = 4 := by decide +kernel
      refine ⟨_, rfl, D, _, _, _, rfl, rfl, (it s3 (i := 0) rfl).1, (it s3 (i := 0) rfl).2, _, _, rfl, rfl, S a, 2, 1, rfl, small a (by simp), ca a (by simp), by decide, d1, by decide, ?_⟩
      refine ⟨_, rfl, D, _, _, _, rfl, rfl, (it s3 (i := 1) rfl).1, (it s3 (i := 1) rfl).2, S b, 9999, 4, rfl, small b (by simp), ca b (by simp), by decide, d2, by decide, ?_⟩
      rw [numB_O, numB_O]
      refine ⟨_, _, rfl, ?_⟩
      refine nxp ?_
      refine seq_mid (A := tAsg _ _) (fun σ' H' => ∃ (v : V) (o : Option (List AV)), σ' = [some (.str (S L)), some (.ref D), some (oV (numO a 2 1)), some (oV (numO b 9999 4)), some v] ∧ ST PN PV H1 H' ∧ ArgV H' v o ∧ (∀ ad, o = some ad → argsB ad = true) ∧ callM L = callN a b m f o) ?_ (fun mid => ?_)
      rotate_left
      · refine ⟨_, rfl, D, _, rfl, .inl (it s3 (i := 0) rfl).1, rfl, _, rfl, ?_⟩
        rcases r with _ | ⟨g, _ | ⟨e, r⟩⟩
        · refine iteF ?_
          refine ⟨Nat.zero_le _, fun p np => ?_⟩
          exact mid _ _ ⟨_, some [], rfl, s3.trans (s3.t.st (Same.lst (Same.refl _) np)), ⟨p, rfl, upd_same⟩, fun ad e => by cases e; rfl, ec⟩
        · refine iteT ?_
          refine ⟨_, rfl, D, _, _, _, rfl, rfl, (it s3 (i := 4) rfl).1, (it s3 (i := 4) rfl).2, g, _, rfl, (pl g (by simp)).1, s3.t, lexF_ok g.length g (Nat.le_refl _), fun H4 s4 => ⟨fun hn => ?_, fun ts rr ho hb hr => ?_⟩⟩
          · refine mid _ _ ⟨_, none, rfl, s3.trans s4, rfl, (fun ad e => by cases e), ?_⟩
            rw [ec]
            show callN a b m f (valsM g) = _
            have : valsM g = none := by
              unfold valsM
              rcases hn with hn | ⟨ts, h1, h2⟩
              · rw [hn]
              · rw [h1]
                show (if argsB (mkAV 1 ts) = true then some (mkAV 1 ts) else none) = none
                rw [h2]
                rfl
            rw [this]
          · refine mid _ _ ⟨_, some (mkAV 1 ts), rfl, s3.trans s4, ⟨rr, rfl, hr⟩, (fun ad e => by cases e; exact hb), ?_⟩
            rw [ec]
            show callN a b m f (valsM g) = _
            have : valsM g = some (mkAV 1 ts) := by
              unfold valsM
              rw [ho]
              show (if argsB (mkAV 1 ts) = true then some (mkAV 1 ts) else none) = _
              rw [hb]
              rfl
            rw [this]
        · exact absurd hr1 (by simp)
      rintro σ' H4 ⟨v, o, rfl, s4, av, hob, ek⟩
      generalize hoh : numO a 2 1 = oh at *
      generalize hon : numO b 9999 4 = on at *
      refine ⟨_, rfl, _, rfl, _, rfl, (show 3 ≤ sizeLine by decide), fun tp ntp => ?_⟩
      have s5 := s4.trans (s4.t.st (Same.lst (o := .tup [oV oh, oV on, v]) (Same.refl _) ntp))
      have av5 : ArgV (upd H4 tp (.tup [oV oh, oV on, v])) v o := by
        cases o with
        | none => exact av
        | some ad =>
          obtain ⟨aa, rfl, e⟩ := av
          exact ⟨aa, rfl, by rw [upd_ne (ne_of_none e ntp)]; exact e⟩
      have etp : (upd H4 tp (.tup [oV oh, oV on, v])) tp = some (.tup [oV oh, oV on, v]) := upd_same
      generalize (upd H4 tp (.tup [oV oh, oV on, v])) = H5 at *
      have f1 := od_sh (o := oh) fun n e => Nat.le_trans (numO_le n (hoh.trans e)) (by decide)
      have f2 := od_sh (o := on) fun n e => Nat.le_trans (numO_le n (hon.trans e)) (by decide)
      have f3 := ag_sh hob
      have f4 : Fit (.tuple [oD oh, oD on, agD o]) 2 4000 := (Fit.tup (ds := [oD oh, oD on, agD o]) (k := 1) (B := 1000) fun d hd => by
        rcases List.mem_cons.mp hd with rfl | hd
        · exact f1
        rcases List.mem_cons.mp hd with rfl | hd
        · exact f2
        rw [List.mem_singleton.mp hd]
        exact f3).more (by decide) (Nat.le_of_ble_eq_true rfl)
      refine ⟨.none, [oD oh, oD on, agD o], .non, .tup (SqT.of etp) (.cons (oD_dp oh) (.cons (oD_dp on) (.cons (agD_dp av5) .nil))), Fit.none.shaped (by decide), f4.shaped (by decide), ?_⟩
      refine ⟨_, rfl, ?_⟩
      have ek2 : callM L = callR oh on (S m) (S f) o := by rw [ek, callN_R hm hf, hoh, hon]
      have sa := st1.trans s5
      cases oh with
      | none => exact iteY (by simp [PyData.eqv, oD]) ((q _ sa).1 ek2)
      | some h0 =>
      cases on with
      | none => exact iteY (by simp [PyData.eqv, oD]) ((q _ sa).1 ek2)
      | some n0 =>
      cases o with
      | none => exact iteY (by simp [PyData.eqv, agD]) ((q _ sa).1 ek2)
      | some ad =>
      refine iteE (by simp [PyData.eqv, agD, oD]) ?_
      refine ⟨_, rfl, _, rfl, _, rfl, D, _, _, _, rfl, rfl, (it s5 (i := 2) rfl).1, (it s5 (i := 2) rfl).2, ?_⟩
      refine ⟨_, rfl, D, _, _, _, rfl, rfl, (it s5 (i := 3) rfl).1, (it s5 (i := 3) rfl).2, ?_⟩
      refine ⟨_, rfl, (show 6 ≤ sizeLine by decide), fun p np => ?_⟩
      obtain ⟨aa, rfl, ea⟩ := av5
      refine (q _ (sa.trans (s5.t.st (Same.lst (Same.refl _) np)))).2 _ p ek2 ⟨aa, upd_same, fun l hl => ?_⟩
      cases hl
      rw [upd_ne (ne_of_none ea np)]
      exact ea
end
end K6

set_option maxRecDepth 100000
set_option maxHeartbeats 4000000
/-! record_of, read_record -/
namespace K6
open PySem hiding Tok code
open PySem.Spec PyProof.Rows GD K1
open L2 hiding rest
abbrev sRecOf : Stmt := topS 59
abbrev sRead : Stmt := topS 58
section
variable {P : Program} {w : World} {K : PySem.W.Frag} {mg : Str → Option Value} {base : Heap} {PN PV : Addr}
theorem RecAt.up {H H' : Hp} {r : Addr} {x : Rec} (h : RecAt H r x) (s : Same H H') : RecAt H' r x := by
  obtain ⟨a, e1, e2⟩ := h
  exact ⟨a, s _ _ e1, fun l hl => s _ _ (e2 l hl)⟩
def spRecOf (PN PV : Addr) : L2.Sp := fun vs H Q _ => ∃ (wd : Str) (L : List Nat), vs = [.str wd, .str (S L)] ∧ L.length ≤ 5000 ∧ (∀ c ∈ L, c < 128) ∧ T2 PN PV H ∧
  ∀ H', ST PN PV H H' → (recM wd L = none → Q .non H') ∧ ∀ x r, recM wd L = some x → RecAt H' r x → Q (.ref r) H'
theorem scRecOf : FnScope ["word", "rest", "names", "many"] ["word", "rest"] (defScope sRecOf) := ⟨rfl, rfl, rfl, by decide +kernel, rfl, by decide +kernel, by decide +kernel⟩
theorem ok_recOf {f f1 f2 f3 f4 f5 : Addr} {fd fd1 fd2 fd3 fd4 fd5 : FuncData} (F : Fun K "record_of" "record_of" sRecOf f fd) (T : Txt K mg) (T2 : TB mg) (ne : PN ≠ PV)
    (TX : ∃ t, mg "CHANGES_MOST" = some (.int 8 t))
    (FE : FO P w K mg base CX0 3 "are_entries" ["names"] (spAreE K PN) f1 fd1) (FT : FO P w K mg base CX0 2 "text_of" ["rest"] (spTextOf PN) f2 fd2)
    (FN : FO P w K mg base CX0 1 "is_name" ["text"] (spName PN) f3 fd3) (FO_ : FO P w K mg base CX0 1 "number_of" ["text", "most"] spNumOf f4 fd4) (FC : FO P w K mg base CX0 7 "call_of" ["rest"] (spCallOf PN PV) f5 fd5) : FnOk P w K mg base CX0 8 f fd ["word", "rest"] (spRecOf PN PV) := by
  have sc := scRecOf
  have T3 := T
  obtain ⟨t1, gXM⟩ := TX
  refine F.ok sc (fun vs H Q E h => ?_) (fun cdv A outer s H vs Q E hr h => ?_)
  · obtain ⟨wd, L, rfl, _⟩ := h
    rfl
  · obtain ⟨wd, L, rfl, hl, ha, t2, q⟩ := h
    refine ⟨_, (pss_cons (ps_if (pt_cmpR op_eq (pv 0) pe_str (nomark _))
      (pss_cons (ps_set (i := 2) sc.nd rfl (Or.inl rfl) (pe_callTy call_tuple_of (by rfl) T2.btuple (by decide +kernel) (pa_cons (pe_split (pv 1) pe_str) pa_nil)))
      (pss_one (ps_ret (pe_ifExp (pt_val (pe_call FE.ok (hr.mono (by decide)) (by rfl) FE.m FE.kp FE.b .nil pass0 (pa_cons (pv 2) pa_nil))) (pe_tup (pa_cons pe_str (pa_cons (pv 2) pa_nil))) pe_non))))
      pss_nil)
      (pss_cons (ps_if (pt_cmpR op_eq (pv 0) pe_str (nomark _))
      (pss_one (ps_ret (pe_call FT.ok (hr.mono (by decide)) (by rfl) FT.m FT.kp FT.b .nil pass0 (pa_cons (pv 1) pa_nil))))
      pss_nil)
      (pss_cons (ps_if (pt_cmpR op_eq (pv 0) pe_str (nomark _))
      (pss_one (ps_ret (pe_ifExp (pt_val (pe_call FN.ok (hr.mono (by decide)) (by rfl) FN.m FN.kp FN.b .nil pass0 (pa_cons (pv 1) pa_nil))) (pe_tup (pa_cons pe_str (pa_cons (pv 1) pa_nil))) pe_non)))
      pss_nil)
      (pss_cons (ps_if (pt_cmpR op_eq (pv 0) pe_str (nomark _))
      (pss_cons (ps_set (i := 3) sc.nd rfl (Or.inl rfl) (pe_call FO_.ok (hr.mono (by decide)) (by rfl) FO_.m FO_.kp FO_.b .nil pass0 (pa_cons (pv 1) (pa_cons (pe_gint rfl gXM) pa_nil))))
      (pss_one (ps_ret (pe_ifExp (pt_cmpR op_isN (pv 3) pe_non (nomark _)) pe_non (pe_tup (pa_cons pe_str (pa_cons (pv 3) pa_nil)))))))
      pss_nil)
      (pss_one (ps_ret (pe_ifExp (pt_cmpR op_eq (pv 0) pe_str (nomark _)) (pe_call FC.ok hr (by rfl) FC.m FC.kp FC.b .nil pass0 (pa_cons (pv 1) pa_nil)) pe_non))))))), ?_⟩
    have r0 := t2.st (Same.refl H)
    have yes : ∀ {x : Str}, decide (V.str wd = V.str x) = true → wd = x := fun h => by injection of_decide_eq_true h
    have no : ∀ {x : Str}, ¬ decide (V.str wd = V.str x) = true → ¬ wd = x := fun h z => h (decide_eq_true (by rw [z]))
    have sL : (S L).length ≤ 5000 := by rw [S_len]; exact hl
    refine ⟨_, rfl, rfl, _, rfl, ite2 (fun h => ?_) (fun n1 => ?_)⟩
    · have ew := yes h
      have er : recM wd L = entM L := by unfold recM; rw [if_pos ew]
      refine ⟨_, rfl, ⟨_, rfl⟩, S L, _, rfl, rfl, by decide, Nat.le_trans (m := 6000) (by omega) (by decide), fun D nD => ?_⟩
      have es : Txt.split (S L) (Str.ofString " ") = (spl 32 (L.length + 1) L []).map S := split_list L (by decide)
      rw [es]
      unfold entM at er
      obtain ⟨xs, hxs⟩ : ∃ xs, xs = (spl 32 (L.length + 1) L []).map S := ⟨_, rfl⟩
      rw [← hxs] at er ⊢
      have s1 := Same.lst (o := .lst (xs.map V.str)) (Same.refl H) nD
      have eD : upd H D (.lst (xs.map V.str)) D = some (.lst (xs.map V.str)) := upd_same
      generalize upd H D (.lst (xs.map V.str)) = H1 at *
      refine ⟨D, _, rfl, .inl ⟨SqL.of eD, fun l nl => ?_⟩⟩
      have s2 := snew (o := .tup (xs.map V.str)) s1 nl
      have el : upd H1 l (.tup (xs.map V.str)) l = some (.tup (xs.map V.str)) := upd_same
      generalize upd H1 l (.tup (xs.map V.str)) = H2 at *
      have st2 := t2.st s2
      refine ⟨_, rfl, l, xs, rfl, el, st2.t.n, fun z hz => ?_, fun H3 k3 => ?_⟩
      · rw [hxs] at hz
        obtain ⟨p, hp, rfl⟩ := List.mem_map.mp hz
        have := (spl_mem 32 L _ [] p hp).2
        rw [List.length_nil] at this
        rw [S_len]
        omega
      · have s3 := st2.t.kpN ne k3
        have el3 := s3.k _ _ (fun _ z => by cases z) el
        refine ⟨_, rfl, ?_⟩
        by_cases hb : (decide (0 < xs.length) && namsB xs 3) = true
        · refine iteY hb ?_
          rw [if_pos hb] at er
          refine ⟨_, rfl, two_le, fun p np => ?_⟩
          refine (q _ (st2.trans (s3.trans (s3.t.st (Same.lst (Same.refl _) np))))).2 _ p er ⟨l, upd_same, fun v hv => ?_⟩
          cases hv
          rw [upd_ne (ne_of_none el3 np)]
          exact el3
        · refine iteE (Bool.eq_false_iff.mpr hb) ?_
          rw [if_neg hb] at er
          exact (q _ (st2.trans s3)).1 er
    refine ⟨_, rfl, rfl, _, rfl, ite2 (fun h => ?_) (fun n2 => ?_)⟩
    · have ew := yes h
      have er : recM wd L = textM L := by unfold recM; rw [if_neg (no n1), if_pos ew]
      unfold textM at er
      have pp := partition_list L (c := 32)
      have pm := parL_mem 32 L
      obtain ⟨p1, p2⟩ := pp
      have p1 : (Txt.partition (S L) (Str.ofString " ")).1 = S (parL 32 L).1 := p1
      have p2 : (Txt.partition (S L) (Str.ofString " ")).2.2 = S (parL 32 L).2 := p2
      have e600 : (S (parL 32 L).2).length = (parL 32 L).2.length := S_len _
      refine ⟨_, rfl, S L, rfl, sL, by rw [p1, S_len]; omega, by rw [p2, S_len]; omega, t2.n, fun hb H1 k1 => ?_, fun hb hl6 H1 r k1 hr => ?_⟩
      · rw [p1, p2, e600] at hb
        refine (q _ (t2.kpN ne k1)).1 ?_
        rw [er, if_neg]
        rintro ⟨z1, z2⟩
        rcases hb with hb | hb
        · rw [hb] at z1; cases z1
        · omega
      · rw [p1] at hb
        rw [p2, e600] at hl6
        rw [p1, p2] at hr
        rw [if_pos ⟨hb, hl6⟩] at er
        refine (q _ (t2.kpN ne k1)).2 _ r er ⟨0, ?_, fun l hl => by cases hl⟩
        rw [hr]
        have : Txt.replace (S (parL 32 L).2) (Str.ofString "|") (Str.ofString "\n") = S ((parL 32 L).2.map fun d => if d = 124 then 10 else d) := repl_list _ 124 10
        rw [this]
        rfl
    refine ⟨_, rfl, rfl, _, rfl, ite2 (fun h => ?_) (fun n3 => ?_)⟩
    · have ew := yes h
      have er : recM wd L = (if nameB (S L) = true then some (.rem (S L)) else none) := by unfold recM; rw [if_neg (no n1), if_neg (no n2), if_pos ew]
      refine ⟨_, rfl, S L, rfl, sL, t2.n, fun H1 k1 => ?_⟩
      have s1 := t2.kpN ne k1
      refine ⟨_, rfl, ?_⟩
      by_cases hb : nameB (S L) = true
      · refine iteY hb ?_
        rw [if_pos hb] at er
        refine ⟨_, rfl, two_le, fun p np => ?_⟩
        exact (q _ (s1.trans (s1.t.st (Same.lst (Same.refl _) np)))).2 _ p er ⟨0, upd_same, fun v hv => by cases hv⟩
      · refine iteE (Bool.eq_false_iff.mpr hb) ?_
        rw [if_neg hb] at er
        exact (q _ s1).1 er
    refine ⟨_, rfl, rfl, _, rfl, ite2 (fun h => ?_) (fun n4 => ?_)⟩
    · have ew := yes h
      have er : recM wd L = (match numO L 8 1 with | none => none | some n => some (.upd n)) := by unfold recM; rw [if_neg (no n1), if_neg (no n2), if_neg (no n3), if_pos ew]; all_goals rfl
      refine ⟨_, rfl, S L, 8, 1, rfl, sL, ha, by decide, (by decide +kernel), by decide, ?_⟩
      rw [numB_O]
      cases hn : numO L 8 1 with
      | none =>
        rw [hn] at er
        refine ⟨_, rfl, rfl, _, rfl, iteT ?_⟩
        exact (q _ r0).1 er
      | some n =>
        rw [hn] at er
        refine ⟨_, rfl, rfl, _, rfl, iteF ?_⟩
        refine ⟨_, rfl, two_le, fun p np => ?_⟩
        exact (q _ (t2.st (Same.lst (Same.refl _) np))).2 _ p er ⟨0, upd_same, fun v hv => by cases hv⟩
    refine ⟨_, rfl, rfl, _, rfl, ite2 (fun h => ?_) (fun n5 => ?_)⟩
    · have ew := yes h
      have er : recM wd L = callM L := by unfold recM; rw [if_neg (no n1), if_neg (no n2), if_neg (no n3), if_neg (no n4), if_pos ew]
      refine ⟨_, rfl, L, rfl, hl, ha, t2, fun H1 s1 => ?_⟩
      rw [← er]
      exact q _ s1
    · have er : recM wd L = none := by unfold recM; rw [if_neg (no n1), if_neg (no n2), if_neg (no n3), if_neg (no n4), if_neg (no n5)]
      exact (q _ r0).1 er
def spRead (PN PV : Addr) : L2.Sp := fun vs H Q _ => ∃ L : List Nat, vs = [.str (S L)] ∧ L.length ≤ 5000 ∧ T2 PN PV H ∧
  ∀ H', ST PN PV H H' → (readM L = none → Q .non H') ∧ ∀ x r, readM L = some x → RecAt H' r x → Q (.ref r) H'
theorem scRead : FnScope ["text", "character", "word", "_", "rest", "record"] ["text"] (defScope sRead) := ⟨rfl, rfl, rfl, by decide +kernel, rfl, by decide +kernel, by decide +kernel⟩
theorem ok_read {f f1 f2 : Addr} {fd fd1 fd2 : FuncData} (F : Fun K "read_record" "read_record" sRead f fd) (T : Txt K mg) (TCH : ∃ t, mg "CHARACTERS" = some (.str CHS t))
    (FR : FO P w K mg base CX0 8 "record_of" ["word", "rest"] (spRecOf PN PV) f1 fd1) (FW : FO P w K mg base CX0 2 "write_record" ["record"] spWRec f2 fd2) : FnOk P w K mg base CX0 9 f fd ["text"] (spRead PN PV) := by
  have sc := scRead
  have T3 := T
  obtain ⟨t1, gCH⟩ := TCH
  refine F.ok sc (fun vs H Q E h => ?_) (fun cdv A outer s H vs Q E hr h => ?_)
  · obtain ⟨L, rfl, _⟩ := h
    rfl
  · obtain ⟨L, rfl, hl, t2, q⟩ := h
    refine ⟨_, (pss_cons (ps_if (pt_not (pt_val (pe_callB (cr_all rfl) (by rfl) T3.all (by decide +kernel) (pa_cons (pe_lc (own := [("character", 1)]) rfl sc.nd (pi_str (pv 0)) (blkOk_by (own := [("character", 1)]) (N := ["text", "character", "word", "_", "rest", "record"]) (sc := defScope sRead) (by decide +kernel)) (fun _ _ _ _ _ => (pg_name (i := 1) sc.nd rfl (Or.inl rfl))) (fun _ _ _ _ _ => pts_nil) (fun _ _ _ _ _ => (pe_cmpR op_in_sign (pv 1) (pe_gstr rfl gCH) rfl))) pa_nil))))
      (pss_one (ps_ret pe_non))
      pss_nil)
      (pss_cons (ps_asg (pe_partition (pv 0) pe_str) (pg_tup rfl (pgs_cons (pg_name (i := 2) sc.nd rfl (Or.inl rfl)) (pgs_cons (pg_name (i := 3) sc.nd rfl (Or.inl rfl)) (pgs_cons (pg_name (i := 4) sc.nd rfl (Or.inl rfl)) pgs_nil)))))
      (pss_cons (ps_set (i := 5) sc.nd rfl (Or.inl rfl) (pe_call FR.ok hr (by rfl) FR.m FR.kp FR.b .nil pass0 (pa_cons (pv 2) (pa_cons (pv 4) pa_nil))))
      (pss_one (ps_ret (pe_ifExp (PW.pt (pw_and (pt_cmpR op_notN (pv 5) pe_non (nomark _)) (pw_and1 (pt_cmpR op_eq (pe_call FW.ok (hr.mono (by decide)) (by rfl) FW.m FW.kp FW.b .nil pass0 (pa_cons (pv 5) pa_nil)) (pv 0) (nomark _))))) (pv 5) pe_non)))))), ?_⟩
    have r0 := t2.st (Same.refl H)
    have sL : (S L).length ≤ 5000 := by rw [S_len]; exact hl
    refine ⟨_, rfl, _, rfl, fun l nl => ?_⟩
    have lz : (S L).cps.size = L.length := S_len L
    refine lc_it (walk_str (z := S L)) (fun j H' => Same H H' ∧ H' l = some (.lst (((L.take j).map isCh).map V.bl))) ⟨Same.lst (Same.refl _) nl, upd_same⟩ (fun i H' _ pv => trivial) (fun j x H2 H3 hj pv y => ?_) (fun H2 pv => ?_)
    · obtain ⟨rfl, c, hc, rfl⟩ := y
      obtain ⟨s2, el⟩ := pv
      have hc' : L[j]? = some c := by
        rw [← hc]
        show L[j]? = (L.toArray)[j]?
        simp
      refine ⟨rfl, _, rfl, c, CHS, rfl, rfl, _, el, ?_, swr s2 nl el, ?_⟩
      · rw [List.length_map, List.length_map, List.length_take]
        exact szlt (by omega)
      · rw [upd_same, List.take_add_one, hc', List.map_append, List.map_append, chs_eq]
        rfl
    · rw [lz, List.take_length] at pv
      obtain ⟨s2, el⟩ := pv
      have st2 := t2.st s2
      refine ⟨l, L.map isCh, rfl, SqL.of el, ?_⟩
      have eb : (L.map isCh).all id = chsB L := by
        unfold chsB
        rw [List.all_map]
        rfl
      rw [eb]
      cases hb : chsB L with
      | false =>
        refine ⟨_, rfl, iteT ?_⟩
        exact (q _ st2).1 (by unfold readM; rw [hb]; rfl)
      | true =>
      refine ⟨_, rfl, iteF ?_⟩
      have a128 : ∀ c ∈ L, c < 128 := fun c hc => by
        unfold chsB at hb
        have := List.all_eq_true.mp hb c hc
        have := of_decide_eq_true this
        omega
      have pm := parL_mem 32 L
      obtain ⟨p1, p2⟩ := partition_list L (c := 32)
      have p1 : (Txt.partition (S L) (Str.ofString " ")).1 = S (parL 32 L).1 := p1
      have p2 : (Txt.partition (S L) (Str.ofString " ")).2.2 = S (parL 32 L).2 := p2
      refine ⟨_, rfl, ⟨_, rfl⟩, S L, _, rfl, rfl, by decide, szle sL, fun p np => ?_⟩
      rw [p1, p2]
      refine ⟨p, _, rfl, .inl (.inl upd_same), rfl, ?_⟩
      refine ⟨_, _, rfl, _, _, rfl, _, _, rfl, rfl, ?_⟩
      have st3 := st2.trans (st2.t.st (Same.lst (o := .tup [.str (S (parL 32 L).1), .str (Txt.partition (S L) (Str.ofString " ")).2.1, .str (S (parL 32 L).2)]) (Same.refl _) np))
      generalize (upd H2 p (.tup [.str (S (parL 32 L).1), .str (Txt.partition (S L) (Str.ofString " ")).2.1, .str (S (parL 32 L).2)])) = H3 at *
      have er : readM L = (match recM (S (parL 32 L).1) (parL 32 L).2 with | none => none | some x => if wR x = S L then some x else none) := by unfold readM; rw [hb]; rfl
      refine ⟨_, rfl, _, rfl, S (parL 32 L).1, (parL 32 L).2, rfl, by omega, fun c hc => a128 c (pm.2.1 c hc), st3.t, fun H4 s4 => ⟨fun hn => ?_, fun x r hx hr => ?_⟩⟩
      · rw [hn] at er
        refine ⟨_, rfl, rfl, _, rfl, ?_⟩
        refine iteF ?_
        refine iteF ?_
        exact (q _ (st3.trans s4)).1 er
      · rw [hx] at er
        have sm := recM_sm (by omega) hx
        refine ⟨_, rfl, rfl, _, rfl, ?_⟩
        refine iteT ?_
        refine ⟨_, rfl, r, x, rfl, hr, sm, fun H5 s5 => ?_⟩
        have st5 := st3.trans (s4.trans (s4.t.st s5))
        refine ⟨_, rfl, rfl, _, rfl, ite2 (fun h => ?_) (fun h => ?_)⟩
        · have e : wR x = S L := by injection of_decide_eq_true h
          have er : readM L = some x := er.trans (if_pos e)
          exact ⟨_, rfl, (q _ st5).2 x r er (hr.up s5)⟩
        · have er : readM L = none := er.trans (if_neg fun z => h (decide_eq_true (by rw [z])))
          exact (q _ st5).1 er
end
end K6

set_option maxRecDepth 100000
set_option maxHeartbeats 4000000
/-! the law's text of a record -/
namespace L2
open PySem hiding Tok code
open PySem.Spec PyProof.Rows
theorem pe_opCT {X : Cx} {op op2 : Operator} {r r2 : R2} {a f : Expr} {ta tf : TE} {x : Str} {j : Nat} {p pos1 pos : Pos} (ho : OpR X (binaryOp op) r) (ho2 : OpR X (binaryOp op2) r2) (ha : PE X a ta) (hf : PET X f tf) :
    PE X (.BinOp (.BinOp a op (.Constant (.str x) j p) pos1) op2 f pos) (tOp r2 (tOp r ta (tC (.str x))) tf) := by
  refine ⟨fun pins s σ H Q I h => wpAny_BinOp (wpAny_BinOp (thn (ha.run pins s σ H _ I h) fun v s1 ⟨y, H1, I1, r1, q1⟩ => Calls.Constant_str ?_))⟩
  refine wpAny_mono (PySem.wpAny_toks (ho pins { s1 with toks := s1.toks + 1 } σ H1 y (.str x) v _ _ (I1.tok _) r1 ⟨_, rfl⟩ q1)) (fun w s2 q => ?_) fun _ _ z => z.2
  obtain ⟨hk, z, H2, I2, r3, q3⟩ := q
  exact thn (hf pins s2 σ H2 _ (Nat.le_trans (Nat.le_add_left 1 _) hk) I2 q3) fun u s3 ⟨y2, H3, I3, r4, q4⟩ => ho2 pins s3 σ H3 z y2 w u Q I3 r3 r4 q4
end L2
namespace K6
open PySem hiding Tok code
open PySem.Spec PyProof.Rows GD K1
open L2 hiding rest
open TL (joinL tl_join)
abbrev sLRT : Stmt := topS 9999
theorem str_eq {a b : Str} (h : a.cps.toList = b.cps.toList) : a = b := by
  apply Str.ext'
  exact Array.toList_inj.mp h
theorem add_list (a b : Str) : (a ++ b).cps.toList = a.cps.toList ++ b.cps.toList := by
  show (a.cps ++ b.cps).toList = _
  rw [Array.toList_append]
theorem add_len (a b : Str) : (a ++ b).length = a.length + b.length := by
  show (a.cps ++ b.cps).size = _
  rw [Array.size_append]
  rfl
section
variable {P : Program} {w : World} {K : PySem.W.Frag} {mg : Str → Option Value} {base : Heap} {PN PV : Addr}
end
end K6

set_option maxRecDepth 100000
set_option maxHeartbeats 4000000
/-! the pieces of a text -/
namespace K4
open PySem hiding Tok code
open PySem.Spec PyProof.Rows GD K1
open L2 hiding rest
abbrev sEncR : Stmt := topS 38
abbrev sEncP : Stmt := topS 39
abbrev sDec : Stmt := topS 40
abbrev sChOf : Stmt := topS 41
abbrev sLPieces : Stmt := topS 9999
abbrev sLSigns : Stmt := topS 9999
abbrev sLaw43 : Stmt := topS 89
/-- the signs of the package -/
def CHS : Str := " !\"#$&'()*+,-./0123456789:;<=>?@ABCDEFGHIJKLMNOPQRSTUVWXYZ[\\]^_`abcdefghijklmnopqrstuvwxyz{|}~"
def isCh (c : Nat) : Bool := decide (32 ≤ c ∧ c ≤ 126 ∧ c ≠ 37)
theorem chs_le : ∀ x ∈ CHS.cps.toList, x ≤ 126 := by decide +kernel
theorem chs_tab : ∀ c ∈ List.range 127, decide (c ∈ CHS.cps.toList) = isCh c := by decide +kernel
theorem chs_eq (c : Nat) : decide (c ∈ CHS.cps.toList) = isCh c := by
  by_cases h : c < 127
  · exact chs_tab c (List.mem_range.mpr h)
  · rw [decide_eq_false fun z => h (Nat.lt_succ_of_le (chs_le c z))]
    exact (decide_eq_false fun z => h (by omega)).symm
theorem pe_gstr {X : Cx} {x z : Str} {t : PySem.Tok} {pos : Pos} (hg : Gl X x) (hm : X.mg x = some (.str z t)) (hd : (x == ("__debug__" : Str)) = false := by decide) : PE X (.Name x pos) (tC (.str z)) := pe_glob hg hm ⟨_, rfl⟩ hd
theorem pe_gint {X : Cx} {x : Str} {i : Int} {t : PySem.Tok} {pos : Pos} (hg : Gl X x) (hm : X.mg x = some (.int i t)) (hd : (x == ("__debug__" : Str)) = false := by decide) : PE X (.Name x pos) (tC (.int i)) := pe_glob hg hm ⟨_, rfl⟩ hd
def rLenK (K : PySem.W.Frag) : List V → Hp → VK → Prop := fun xs H Q => ∃ p ys, xs = [.ref p] ∧ (SqL K H p ys ∨ SqT K H p ys) ∧ Q (.int ys.length) H
theorem call_lenK {X : Cx} : CallR X (.builtin "len") (rLenK X.K) := call_len_seq
/-- a def that stands at its name -/
structure FO (P : Program) (w : World) (K : PySem.W.Frag) (mg : Str → Option Value) (base : Heap) (CX : CXT) (k : Nat) (x : Str) (ps : List Str) (sp : L2.Sp) (f : Addr) (fd : FuncData) : Prop where
  m : mg x = some (.ref f)
  kp : PySem.W.keepIn K (.ref f) = true
  b : Binds K fd ps []
  ok : FnOk P w K mg base CX k f fd ps sp
/-- more of what the top leaves to the built-ins, and its constants -/
structure Txt3 (mg : Str → Option Value) : Prop where
  btuple : mg "tuple" = none
  isinstance : mg "isinstance" = none
  enumerate : mg "enumerate" = none
  any : mg "any" = none
  all : mg "all" = none
  ord : mg "ord" = none
  BLOCK : ∃ t, mg "BLOCK" = some (.int 32 t)
  MARK : ∃ t, mg "MARK" = some (.int 83 t)
  HEAD : ∃ t, mg "HEAD" = some (.int 6 t)
  PIECE : ∃ t, mg "PIECE" = some (.int 24 t)
  CHARACTERS : ∃ t, mg "CHARACTERS" = some (.str CHS t)
theorem szle {n : Nat} (h : n ≤ 5000) : n ≤ sizeLine := Nat.le_trans h (by decide)
theorem szlt {n : Nat} (h : n ≤ 5000) : n < sizeLine := Nat.lt_of_le_of_lt h (by decide)
/-! ### the mathematics -/
def iv (l : List Int) : List V := l.map V.int
def codes (p : List Nat) : List Int := p.map fun c => ((c : Nat) : Int)
def enc (i many num : Int) (p : List Nat) : List Int := [83, i, many, num / 256, num % 256, (p.length : Int)] ++ codes p ++ List.replicate (25 - p.length) 0 ++ [83]
def piece (L : List Nat) (k : Nat) : List Nat := (L.drop (24 * k)).take 24
def cnt (L : List Nat) : Nat := (L.length + 23) / 24
def encR (num : Int) (L : List Nat) : List (List Int) := (List.range (cnt L)).map fun k => enc (k : Nat) (cnt L : Nat) num (piece L k)
theorem codes_len (p : List Nat) : (codes p).length = p.length := List.length_map _
theorem enc_len {i many num : Int} {p : List Nat} (h : p.length ≤ 24) : (enc i many num p).length = 32 := by
  unfold enc
  simp only [List.length_append, List.length_cons, List.length_nil, codes_len, List.length_replicate]
  omega
theorem piece_len (L : List Nat) (k : Nat) : (piece L k).length ≤ 24 := by
  unfold piece
  rw [List.length_take]
  omega
theorem iv_app (a b : List Int) : iv a ++ iv b = iv (a ++ b) := (List.map_append).symm
theorem rep_flat (n : Nat) (x : V) : (List.replicate n [x]).flatten = List.replicate n x := by
  induction n with
  | zero => rfl
  | succ n ih => rw [List.replicate_succ, List.replicate_succ, List.flatten_cons, ih]; rfl
theorem rep_iv (n : Nat) (x : Int) : List.replicate n (V.int x) = iv (List.replicate n x) := by
  unfold iv
  rw [List.map_replicate]
theorem one_cps (c : Nat) : ((⟨#[c]⟩ : Str).cps.getD 0 0 : Nat) = c := rfl
theorem getS {L : List Nat} {i c : Nat} (h : (S L).cps[i]? = some c) : L[i]? = some c := by
  have : L.toArray[i]? = some c := h
  simpa using this
theorem sfree {H H' : Hp} {p : Addr} (s : Same H H') (n : H' p = none) : H p = none := by
  cases e : H p with
  | none => rfl
  | some o => rw [s p o e] at n; cases n
theorem strans {H H1 H2 : Hp} (a : Same H H1) (b : Same H1 H2) : Same H H2 := fun p o e => b p o (a p o e)
theorem snew {H H1 : Hp} {D : Addr} {o : HO} (s : Same H H1) (n : H1 D = none) : Same H (upd H1 D o) := strans s (Same.lst (Same.refl H1) n)
/-- a written text, so and so often -/
theorem op_rep_str {X : Cx} : OpR X (binaryOp .Mult) (fun x y H Q => ∃ (z : Str) (n : Int), x = .str z ∧ y = .int n ∧ (decide (n < -(2 ^ 63 : Int)) || decide (n ≥ 2 ^ 63)) = false ∧
    ¬ ((z.length : Int) > (2 ^ 63 - 1) / n) ∧ Builtin.Str.tooLong (z.length * n.toNat) = false ∧ (n == 1 || z.length == 0) = false ∧ ¬ n < 1 ∧
    (⟨(List.replicate n.toNat z.cps).foldl (· ++ ·) #[]⟩ : Str).length ≤ sizeLine ∧ Q (.str ⟨(List.replicate n.toNat z.cps).foldl (· ++ ·) #[]⟩) H) := by
  intro pins s σ H x y v u Q I rx ry h
  obtain ⟨z, n, rfl, rfl, h1, h2, h3, h4, h5, h6, q⟩ := h
  obtain ⟨t, rfl⟩ := rx
  obtain ⟨t', rfl⟩ := ry
  refine PySem.P.mul_str h1 (fun _ _ => h2) (fun _ _ => h3) ?_
  rw [if_neg h5, if_neg (by rw [h4]; exact Bool.false_ne_true)]
  exact ⟨h6, ⟨.str _, H, I.tok _, ⟨_, rfl⟩, q⟩⟩
section
variable {P : Program} {w : World} {K : PySem.W.Frag} {mg : Str → Option Value} {base : Heap}
def spEncP : L2.Sp := fun vs H Q _ => ∃ (i many num : Int) (p : List Nat), vs = [.int i, .int many, .int num, .str (S p)] ∧ p.length ≤ 24 ∧
  ∀ H' D, Same H H' → H D = none → H' D = some (.lst (iv (enc i many num p))) → Q (.ref D) H'
theorem scEncP : FnScope ["index", "many", "number", "piece", "head", "codes", "character"] ["index", "many", "number", "piece"] (defScope sEncP) := ⟨rfl, rfl, rfl, by decide +kernel, rfl, by decide +kernel, by decide +kernel⟩
theorem ok_encP {f : Addr} {fd : FuncData} (F : Fun K "encode_piece" "encode_piece" sEncP f fd) (T : Txt K mg) (T3 : Txt3 mg) : FnOk P w K mg base CX0 1 f fd ["index", "many", "number", "piece"] spEncP := by
  have sc := scEncP
  obtain ⟨t1, gMark⟩ := T3.MARK
  obtain ⟨t2, gBlock⟩ := T3.BLOCK
  obtain ⟨t3, gHead⟩ := T3.HEAD
  refine F.ok sc (fun vs H Q E h => ?_) (fun cdv A outer s H vs Q E hr h => ?_)
  · obtain ⟨i, many, num, p, rfl, _⟩ := h
    rfl
  · obtain ⟨i, many, num, p, rfl, hp, q⟩ := h
    refine ⟨_, (pss_cons (ps_set (i := 4) sc.nd rfl (Or.inl rfl) (pe_lst (pa_cons (pe_gint rfl gMark) (pa_cons (pv 0) (pa_cons (pv 1) (pa_cons (pe_op op_fdiv (pv 2) pe_int) (pa_cons (pe_op op_mod (pv 2) pe_int) (pa_cons (pe_callB call_len_str (by rfl) T.len (by decide +kernel) (pa_cons (pv 3) pa_nil)) pa_nil))))))))
      (pss_cons (ps_setLc (i := 5) (own := [("character", 6)]) rfl sc.nd rfl rfl (sw_true rfl rfl rfl (by decide +kernel)) (pi_str (pv 3)) (blkOk_by (own := [("character", 6)]) (N := ["index", "many", "number", "piece", "head", "codes", "character"]) (sc := defScope sEncP) (by decide +kernel)) (fun _ _ _ _ _ => (pg_name (i := 6) sc.nd rfl (Or.inl rfl))) (fun _ _ _ _ _ => pts_nil) (fun _ _ _ _ _ => (pe_callB call_ord (by rfl) T3.ord (by decide +kernel) (pa_cons (pv 6) pa_nil))))
      (pss_one (ps_ret (pe_op op_cat (pe_op op_cat (pe_op op_cat (pv 4) (pv 5)) (pe_op op_rep (pe_lst (pa_cons pe_int pa_nil)) (pe_op op_sub (pe_op op_sub (pe_op op_sub (pe_gint rfl gBlock) pe_int) (pe_gint rfl gHead)) (pe_callB call_len_seq (by rfl) T.len (by decide +kernel) (pa_cons (pv 5) pa_nil))))) (pe_lst (pa_cons (pe_gint rfl gMark) pa_nil))))))), ?_⟩
    refine ⟨_, rfl, _, rfl, _, rfl, _, _, rfl, rfl, ⟨by decide, by decide⟩, _, rfl, _, _, rfl, rfl, (by show (0 : Int) < 256; decide), _, rfl, _, rfl, (by rw [S_len]; exact szle (by omega)), (by show 6 ≤ sizeLine; decide), fun h nh => ?_⟩
    rw [S_len]
    have s1 : Same H (upd H h (.lst (iv [83, i, many, num / 256, num % 256, (p.length : Int)]))) := Same.lst (Same.refl H) nh
    refine ⟨_, rfl, _, rfl, fun c nc => ?_⟩
    refine lc_it (walk_str (z := S p)) (fun j H' => Same (upd H h (.lst (iv [83, i, many, num / 256, num % 256, (p.length : Int)]))) H' ∧ H' c = some (.lst (iv (codes (p.take j))))) ⟨Same.lst (Same.refl _) nc, upd_same⟩ (fun _ _ _ _ => trivial) (fun j x H1 H2 hj pv y => ?_) (fun H' pv => ?_)
    · obtain ⟨rfl, cc, hc, rfl⟩ := y
      have hc' := getS hc
      refine ⟨rfl, ?_⟩
      refine ⟨_, rfl, _, rfl, rfl, ?_⟩
      refine ⟨_, pv.2, ?_, Same.lst pv.1 nc, ?_⟩
      · unfold iv
        rw [List.length_map, codes_len, List.length_take]
        exact szlt (by omega)
      · rw [upd_same, List.take_add_one, hc']
        unfold codes iv
        rw [List.map_append, List.map_append]
        rfl
    · have en : (S p).cps.size = p.length := S_len p
      rw [en, List.take_length] at pv
      obtain ⟨s2, ec⟩ := pv
      have eh : H' h = some (.lst (iv [83, i, many, num / 256, num % 256, (p.length : Int)])) := s2 _ _ upd_same
      refine ⟨_, rfl, _, rfl, h, c, _, _, rfl, rfl, eh, ec, ?_, fun a na => ?_⟩
      · unfold iv
        rw [List.length_map, List.length_map, codes_len]
        exact szle (by show 6 + p.length ≤ 5000; omega)
      rw [iv_app]
      have s3 : Same H (upd H' a (.lst (iv ([83, i, many, num / 256, num % 256, (p.length : Int)] ++ codes p)))) := snew (strans s1 s2) na
      have ca : (upd H' a (.lst (iv ([83, i, many, num / 256, num % 256, (p.length : Int)] ++ codes p)))) c = some (.lst (iv (codes p))) := by rw [upd_ne (ne_of_none ec na)]; exact ec
      refine ⟨(by show 1 ≤ sizeLine; decide), fun z nz => ?_⟩
      refine ⟨_, _, rfl, rfl, _, _, rfl, rfl, _, rfl, c, _, rfl, .inl (SqL.of (by rw [upd_ne (ne_of_none ca nz)]; exact ca)), _, _, rfl, rfl, z, _, _, rfl, rfl, upd_same, ?_, ?_, ?_, fun r nr => ?_⟩
      · unfold iv; rw [List.length_map, codes_len]; show -(2 ^ 63 : Int) ≤ 32 - 1 - 6 - ((p.length : Nat) : Int); omega
      · unfold iv; rw [List.length_map, codes_len]; show (32 - 1 - 6 - ((p.length : Nat) : Int)) < 2 ^ 63; omega
      · unfold iv; rw [List.length_map, codes_len]; show 1 * (32 - 1 - 6 - ((p.length : Nat) : Int)).toNat ≤ sizeLine; rw [Nat.one_mul]; exact szle (by omega)
      have er : (32 : Int) - 1 - 6 - ((iv (codes p)).length : Nat) = ((25 - p.length : Nat) : Int) := by unfold iv; rw [List.length_map, codes_len]; omega
      rw [er, Int.toNat_natCast, rep_flat, rep_iv] at *
      have s4 := snew (o := .lst [V.int 0]) s3 nz
      have s5 := snew (o := .lst (iv (List.replicate (25 - p.length) 0))) s4 nr
      refine ⟨a, r, iv ([83, i, many, num / 256, num % 256, (p.length : Int)] ++ codes p), _, rfl, rfl, ?_, upd_same, ?_, fun u nu => ?_⟩
      · rw [upd_ne (ne_of_none (by rw [upd_ne (ne_of_none upd_same nz)]; exact upd_same) nr), upd_ne (ne_of_none upd_same nz)]; exact upd_same
      · unfold iv; rw [List.length_map, List.length_map, List.length_append, codes_len, List.length_replicate]; exact szle (by show 6 + p.length + (25 - p.length) ≤ 5000; omega)
      rw [iv_app]
      have s6 := snew (o := .lst (iv ([83, i, many, num / 256, num % 256, (p.length : Int)] ++ codes p ++ List.replicate (25 - p.length) 0))) s5 nu
      refine ⟨(by show 1 ≤ sizeLine; decide), fun m nm => ?_⟩
      have s7 := snew (o := .lst [V.int 83]) s6 nm
      refine ⟨u, m, iv ([83, i, many, num / 256, num % 256, (p.length : Int)] ++ codes p ++ List.replicate (25 - p.length) 0), _, rfl, rfl, by rw [upd_ne (ne_of_none upd_same nm)]; exact upd_same, upd_same, ?_, fun o no => ?_⟩
      · unfold iv; rw [List.length_map, List.length_append, List.length_append, codes_len, List.length_replicate]; exact szle (by show 6 + p.length + (25 - p.length) + 1 ≤ 5000; omega)
      exact q _ o (snew s7 no) (sfree s7 no) (by rw [upd_same]; show some (HO.lst (iv _ ++ iv [83])) = _; rw [iv_app]; rfl)
end
end K4

set_option maxRecDepth 100000
set_option maxHeartbeats 4000000
/-! encode_record -/
namespace K4
open PySem hiding Tok code
open PySem.Spec PyProof.Rows GD K1
open L2 hiding rest
theorem rg24 {n : Nat} (h : n ≤ 5000) : RgC 0 (n : Nat) 24 ((n + 23) / 24) := by
  have e : Builtin.Range.rangeSize 0 (n : Nat) 24 = (((n + 23) / 24 : Nat) : Int) := by
    rw [rangeSize_pos (by decide) (by omega)]
    omega
  refine ⟨by decide, by decide, ?_, e⟩
  have fl : ∀ i : Int, -(2 ^ 62) ≤ i → i < 2 ^ 62 → Builtin.Range.rangeFitsLong i = true := fun i h1 h2 => by
    unfold Builtin.Range.rangeFitsLong
    rw [decide_eq_true (by omega), decide_eq_true (by omega)]
    rfl
  unfold Builtin.Range.small
  rw [e, fl 0 (by decide) (by decide), fl _ (by omega) (by omega), fl 24 (by decide) (by decide), fl (((n + 23) / 24 : Nat) : Int) (by omega) (by omega), if_pos (by decide), fl _ (by omega) (by omega)]
  rw [Bool.or_true]
  rfl
/-- the list at v: blocks -/
def BlkV (H : Hp) (v : V) (b : List Int) : Prop := ∃ q, v = .ref q ∧ H q = some (.lst (iv b))
def Blks (H : Hp) : List V → List (List Int) → Prop := Paired (BlkV H)
theorem BlkV.same {H H' : Hp} (s : Same H H') {v : V} {b : List Int} (h : BlkV H v b) : BlkV H' v b := by
  obtain ⟨q, e, h⟩ := h
  exact ⟨q, e, s _ _ h⟩
theorem Blks.same {H H' : Hp} (s : Same H H') {vs : List V} {bs : List (List Int)} (h : Blks H vs bs) : Blks H' vs bs := by
  induction h with
  | nil => exact .nil
  | cons a _ ih => exact .cons (a.same s) ih
theorem Blks.len {H : Hp} {vs : List V} {bs : List (List Int)} (h : Blks H vs bs) : vs.length = bs.length := by
  induction h with
  | nil => rfl
  | cons _ _ ih => rw [List.length_cons, List.length_cons, ih]
theorem Blks.snoc {H : Hp} {vs : List V} {bs : List (List Int)} {v : V} {b : List Int} (h : Blks H vs bs) (k : BlkV H v b) : Blks H (vs ++ [v]) (bs ++ [b]) := by
  induction h with
  | nil => exact .cons k .nil
  | cons a _ ih => exact .cons a ih
theorem Blks.get {H : Hp} {vs : List V} {bs : List (List Int)} (h : Blks H vs bs) {i : Nat} {b : List Int} (e : bs[i]? = some b) : ∃ v, vs[i]? = some v ∧ BlkV H v b := by
  induction h generalizing i with
  | nil => simp at e
  | cons a _ ih =>
    cases i with
    | zero =>
      rw [List.getElem?_cons_zero] at e ⊢
      cases e
      exact ⟨_, rfl, a⟩
    | succ i =>
      rw [List.getElem?_cons_succ] at e ⊢
      exact ih e
/-- blocks that are not the list at D -/
def BlkD (D : Addr) (H : Hp) : List V → List (List Int) → Prop := Paired fun v b => ∃ q, v = .ref q ∧ q ≠ D ∧ H q = some (.lst (iv b))
theorem BlkD.blks {D : Addr} {H : Hp} {vs : List V} {bs : List (List Int)} (h : BlkD D H vs bs) : Blks H vs bs := by
  induction h with
  | nil => exact .nil
  | cons a _ ih =>
    obtain ⟨q, e, _, k⟩ := a
    exact .cons ⟨q, e, k⟩ ih
theorem BlkD.up {D : Addr} {H H' : Hp} (s : ∀ q xs, q ≠ D → H q = some (.lst xs) → H' q = some (.lst xs)) {vs : List V} {bs : List (List Int)} (h : BlkD D H vs bs) : BlkD D H' vs bs := by
  induction h with
  | nil => exact .nil
  | cons a _ ih =>
    obtain ⟨q, e, n, k⟩ := a
    exact .cons ⟨q, e, n, s _ _ n k⟩ ih
theorem BlkD.snoc {D : Addr} {H : Hp} {vs : List V} {bs : List (List Int)} {q : Addr} {b : List Int} (h : BlkD D H vs bs) (n : q ≠ D) (k : H q = some (.lst (iv b))) : BlkD D H (vs ++ [.ref q]) (bs ++ [b]) := by
  induction h with
  | nil => exact .cons ⟨q, rfl, n, k⟩ .nil
  | cons a _ ih => exact .cons a ih
theorem cut24 (L : List Nat) {k : Nat} (h : 24 * k ≤ L.length) : cutS (S L) (some ((24 * k : Nat) : Int)) (some ((24 * k + 24 : Nat) : Int)) = S (piece L k) := by
  unfold cutS piece
  rw [HT.sIx_nat, HT.sIx_nat, S_len, Nat.min_eq_left h, S_toList]
  have e : (L.drop (24 * k)).take (min (24 * k + 24) L.length - 24 * k) = (L.drop (24 * k)).take 24 := by
    by_cases h2 : 24 * k + 24 ≤ L.length
    · rw [Nat.min_eq_left h2, Nat.add_sub_cancel_left]
    · rw [List.take_of_length_le (by rw [List.length_drop]; omega), List.take_of_length_le (by rw [List.length_drop]; omega)]
  rw [e]
  rfl
theorem cnt_lt {L : List Nat} {k : Nat} (h : k < cnt L) : 24 * k ≤ L.length := by unfold cnt at h; omega
theorem range_get {n i : Nat} {α : Type} (f : Nat → α) (h : i < n) : ((List.range n).map f)[i]? = some (f i) := by
  rw [List.getElem?_map, List.getElem?_range h]
  rfl
theorem range_snoc {α : Type} (f : Nat → α) (n : Nat) : (List.range (n + 1)).map f = (List.range n).map f ++ [f n] := by
  rw [List.range_succ, List.map_append]
  rfl
section
variable {P : Program} {w : World} {K : PySem.W.Frag} {mg : Str → Option Value} {base : Heap}
/-- all of them new -/
def Frs (H : Hp) (vs : List V) : Prop := ∀ v ∈ vs, ∃ q, v = V.ref q ∧ H q = none
def spEncR : L2.Sp := fun vs H Q _ => ∃ (num : Int) (L : List Nat), vs = [.int num, .str (S L)] ∧ L.length ≤ 720 ∧
  ∀ H' D ws, Same H H' → H D = none → H' D = some (.lst ws) → Blks H' ws (encR num L) → Frs H ws → Q (.ref D) H'
theorem scEncR : FnScope ["number", "text", "pieces", "at", "index", "piece"] ["number", "text"] (defScope sEncR) := ⟨rfl, rfl, rfl, by decide +kernel, rfl, by decide +kernel, by decide +kernel⟩
theorem ok_encR {f f1 : Addr} {fd fd1 : FuncData} (F : Fun K "encode_record" "encode_record" sEncR f fd) (T : Txt K mg) (T3 : Txt3 mg)
    (FP : FO P w K mg base CX0 1 "encode_piece" ["index", "many", "number", "piece"] spEncP f1 fd1) : FnOk P w K mg base CX0 2 f fd ["number", "text"] spEncR := by
  have sc := scEncR
  obtain ⟨t2, gPiece⟩ := T3.PIECE
  refine F.ok sc (fun vs H Q E h => ?_) (fun cdv A outer s H vs Q E hr h => ?_)
  · obtain ⟨num, L, rfl, _⟩ := h
    rfl
  · obtain ⟨num, L, rfl, hl, q⟩ := h
    have cl : cnt L ≤ 30 := by unfold cnt; omega
    refine ⟨_, (pss_cons (ps_set (i := 2) sc.nd rfl (Or.inr rfl) (pe_lc (own := [("at", 3)]) rfl sc.nd (pi_range3 rfl T.range (pa_cons pe_int (pa_cons (pe_callB call_len_str (by rfl) T.len (by decide +kernel) (pa_cons (pv 1) pa_nil)) (pa_cons (pe_gint rfl gPiece) pa_nil)))) (blkOk_by (own := [("at", 3)]) (N := ["number", "text", "pieces", "at", "index", "piece"]) (sc := defScope sEncR) (by decide +kernel)) (fun _ _ _ _ _ => (pg_name (i := 3) sc.nd rfl (Or.inl rfl))) (fun _ _ _ _ _ => pts_nil) (fun _ _ _ _ _ => (pe_slice sl_str (pv 1) (po_some (pv 3)) (po_some (pe_op op_add (pv 3) (pe_gint rfl gPiece)))))))
      (pss_one (ps_ret (pe_lc (own := [("index", 4), ("piece", 5)]) rfl sc.nd (pi_enum rfl T3.enumerate (pa_cons (pv 2) pa_nil)) (blkOk_by (own := [("index", 4), ("piece", 5)]) (N := ["number", "text", "pieces", "at", "index", "piece"]) (sc := defScope sEncR) (by decide +kernel)) (fun _ _ _ _ _ => (show PG _ _ (gTup K 2 _) from pg_tup rfl (pgs_cons (pg_name (i := 4) sc.nd rfl (Or.inl rfl)) (pgs_cons (pg_name (i := 5) sc.nd rfl (Or.inl rfl)) pgs_nil)))) (fun _ _ _ _ _ => pts_nil) (fun _ _ _ _ _ => (pe_call FP.ok hr (by rfl) FP.m FP.kp FP.b .nil pass0 (pa_cons (pv 4) (pa_cons (pe_callB (show CallR _ _ (rLenK K) from call_lenK) (by rfl) T.len (by decide +kernel) (pa_cons (pv 2) pa_nil)) (pa_cons (pv 0) (pa_cons (pv 5) pa_nil)))))))))), ?_⟩
    refine ⟨_, rfl, _, rfl, (by rw [S_len]; exact szle (by omega)), 0, _, 24, cnt L, rfl, (by rw [S_len]; exact rg24 (by omega)), fun pp npp => ?_⟩
    refine lc_it walk_rangeC (fun j H' => Same H H' ∧ H' pp = some (.lst ((List.range j).map fun k => V.str (S (piece L k))))) ⟨Same.lst (Same.refl _) npp, upd_same⟩ (fun _ _ _ _ => trivial) (fun j x H1 H2 hj pv y => ?_) (fun H1 pv => ?_)
    · obtain ⟨rfl, rfl⟩ := y
      have e1 : (0 : Int) + ((j : Nat) : Int) * 24 = ((24 * j : Nat) : Int) := by omega
      have e2 : (0 : Int) + ((j : Nat) : Int) * 24 + 24 = ((24 * j + 24 : Nat) : Int) := by omega
      refine ⟨rfl, ?_⟩
      refine ⟨_, rfl, _, rfl, _, rfl, _, rfl, _, _, rfl, rfl, _, rfl, _, rfl, (by rw [S_len]; exact szle (by omega)), ?_⟩
      refine ⟨_, pv.2, ?_, Same.lst pv.1 npp, ?_⟩
      · rw [List.length_map, List.length_range]
        exact szlt (by omega)
      · rw [upd_same, range_snoc, e2, e1, cut24 L (cnt_lt hj)]
    obtain ⟨s1, epp⟩ := pv
    refine ⟨_, rfl, pp, _, rfl, SqL.of epp, fun D nD => ?_⟩
    have lpp : ((List.range (cnt L)).map fun k => V.str (S (piece L k))).length = cnt L := by rw [List.length_map, List.length_range]
    refine lc_it (walk_enum (K := K) (a := pp) (xs := (List.range (cnt L)).map fun k => V.str (S (piece L k)))) (fun j H' => ∃ ws, Same H1 H' ∧ H' D = some (.lst ws) ∧ BlkD D H' ws ((List.range j).map fun k => enc (k : Nat) (cnt L : Nat) num (piece L k)) ∧ Frs H ws) ⟨[], Same.lst (Same.refl _) nD, upd_same, .nil, fun v h => (by cases h)⟩ (fun i H' _ pv => ?_) (fun j x H2 H3 hj pv y => ?_) (fun H2 pv => ?_)
    · obtain ⟨ws, s2, _, _, _⟩ := pv
      exact SqL.of (s2 _ _ epp)
    · obtain ⟨ws, s2, eD, bl, fr⟩ := pv
      obtain ⟨Tq, v1, v2, rfl, nT, rfl, h1, h2⟩ := y
      rw [lpp] at hj
      cases h1
      have h2 : ((List.range (cnt L)).map fun k => V.str (S (piece L k)))[j]? = some v2 := h2
      rw [range_get _ hj] at h2
      cases h2
      have s3 := snew (o := .tup [.int (j : Nat), .str (S (piece L j))]) s2 nT
      have eD3 : (upd H2 Tq (.tup [.int (j : Nat), .str (S (piece L j))])) D = some (.lst ws) := by rw [upd_ne (ne_of_none eD nT)]; exact eD
      refine ⟨Tq, _, rfl, SqT.of upd_same, rfl, _, _, rfl, _, _, rfl, rfl, rfl, ?_⟩
      refine ⟨_, rfl, _, rfl, pp, _, rfl, .inl (SqL.of (s3 _ _ epp)), _, rfl, _, rfl, _, _, _, _, rfl, piece_len L j, fun H4 D4 s4 nD4 e4 => ?_⟩
      have eD4 := s4 _ _ eD3
      have wl := bl.blks.len
      rw [List.length_map, List.length_range] at wl
      have n4 : D4 ≠ D := fun z => by rw [z, eD3] at nD4; cases nD4
      refine ⟨ws, eD4, by rw [wl]; exact szlt (by omega), ws ++ [.ref D4], ?_, upd_same, ?_, fun v hv => ?_⟩
      · exact fun b o e => by rw [upd_ne (ne_of_none e nD)]; exact s4 _ _ (s3 _ _ e)
      · rw [range_snoc]
        have ss : ∀ q xs, q ≠ D → H2 q = some (.lst xs) → (upd H4 D (.lst (ws ++ [.ref D4]))) q = some (.lst xs) := fun q xs n e => by rw [upd_ne n]; exact s4 _ _ (by rw [upd_ne (ne_of_none e nT)]; exact e)
        exact BlkD.snoc (bl.up ss) n4 (by rw [upd_ne n4, e4, lpp])
      · rcases List.mem_append.mp hv with hv | hv
        · exact fr v hv
        · rw [List.mem_singleton.mp hv]
          exact ⟨D4, rfl, sfree s1 (sfree s3 nD4)⟩
    · obtain ⟨ws, s2, eD, bl, fr⟩ := pv
      rw [lpp] at bl
      exact q _ D ws (strans s1 s2) (sfree s1 nD) eD bl.blks fr
end
end K4

set_option maxRecDepth 100000
set_option maxHeartbeats 4000000
/-! characters_of -/
namespace K4
open PySem hiding Tok code
open PySem.Spec PyProof.Rows GD K1
open L2 hiding rest
def chL : List Nat := CHS.cps.toList
theorem ch_mem {c : Nat} : c ∈ chL ↔ isCh c = true := by
  rw [← chs_eq c]
  exact decide_eq_true_iff.symm
/-- what the dict of signs has for a key, when the first j signs were put -/
def chAt (j : Nat) (i : Int) : Option V := if 0 ≤ i ∧ i.toNat ∈ chL.take j then some (.str ⟨#[i.toNat]⟩) else none
theorem chAt_step {j c : Nat} (h : chL[j]? = some c) (i : Int) : (if (Sum.inl i : Key) = Sum.inl ((c : Nat) : Int) then some (V.str ⟨#[c]⟩) else chAt j i) = chAt (j + 1) i := by
  unfold chAt
  rw [List.take_add_one, h]
  by_cases e : i = ((c : Nat) : Int)
  · subst e
    rw [if_pos rfl, if_pos ⟨by omega, List.mem_append.mpr (.inr (by rw [Int.toNat_natCast]; exact List.mem_cons_self))⟩, Int.toNat_natCast]
  · rw [if_neg fun z => e (Sum.inl.inj z)]
    by_cases k : 0 ≤ i ∧ i.toNat ∈ chL.take j
    · rw [if_pos k, if_pos ⟨k.1, List.mem_append.mpr (.inl k.2)⟩]
    · rw [if_neg k, if_neg fun z => ?_]
      rcases List.mem_append.mp z.2 with m | m
      · exact k ⟨z.1, m⟩
      · have m : i.toNat ∈ [c] := m
        have := List.mem_singleton.mp m
        omega
theorem chAt_all (i : Int) : chAt chL.length i = if 0 ≤ i ∧ isCh i.toNat = true then some (.str ⟨#[i.toNat]⟩) else none := by
  unfold chAt
  rw [List.take_length]
  by_cases k : 0 ≤ i ∧ i.toNat ∈ chL
  · rw [if_pos k, if_pos ⟨k.1, ch_mem.mp k.2⟩]
  · rw [if_neg k, if_neg fun z => k ⟨z.1, ch_mem.mpr z.2⟩]
theorem join_signs (l : List Nat) : Txt.join (Str.ofString "") (l.map fun c => (⟨#[c]⟩ : Str)) = S l := by
  rw [TL.join_eq]
  induction l with
  | nil => rfl
  | cons p r ih =>
    cases r with
    | nil => rfl
    | cons q r =>
      show S [p] ++ S [] ++ Str.join (Str.ofString "") ((q :: r).map fun c => (⟨#[c]⟩ : Str)) = S (p :: q :: r)
      rw [ih, S_app, S_app]
      rfl
def okc1 (c : Int) : Bool := decide (0 ≤ c) && isCh c.toNat
theorem okc1_iff {c : Int} : okc1 c = true ↔ 0 ≤ c ∧ isCh c.toNat = true := by
  unfold okc1
  rw [Bool.and_eq_true, decide_eq_true_iff]
/-- a dict's comprehension over a walk: Pv by the turn and the heap -/
theorem dc_it {J : It} {n : Nat} {G : Hp → Prop} {Y : Nat → Hp → V → Hp → Prop} (w : Walk J n G Y) {g : TG} {tt : TT} {tk tv : TE} {vs : List Nat} {σ : L2.St} {H1 : Hp} {D : Addr} {Qd : Hp → Prop}
    (Pv : Nat → Hp → Prop) (h0 : Pv 0 (upd H1 D (.dK []))) (hG : ∀ i H, i ≤ n → Pv i H → G H)
    (hs : ∀ i x H H', i < n → Pv i H → Y i H x H' → g x (wipe σ vs) H' fun σ2 H2 => wipe σ2 vs = wipe σ vs ∧ tt σ2 H2 fun b H3 =>
      if b = true then tk σ2 H3 fun y H4 => tv σ2 H4 fun z H5 => ∃ kvs k, y = kV k ∧ H5 D = some (.dK kvs) ∧ kvs.length < sizeLine ∧ Pv (i + 1) (upd H5 D (.dK (putK kvs k z))) else Pv (i + 1) H3) (hd : ∀ H, Pv n H → Qd H) :
    ∃ W : Nat → Nat → Hp → Prop, (∃ m, W 0 m (upd H1 D (.dK []))) ∧ ∀ i m H, W i m H → (J.stop i H ∧ Qd H) ∨
      (J.go i H ∧ ∃ Nx : Hp → Prop, (∀ H', Nx H' → ∃ m', m' < m ∧ W (i + 1) m' H') ∧ ∀ x H', J.yld i H x H' → g x (wipe σ vs) H' fun σ2 H2 => wipe σ2 vs = wipe σ vs ∧ tt σ2 H2 fun b H3 =>
        if b = true then tk σ2 H3 fun y H4 => tv σ2 H4 fun z H5 => ∃ kvs k, y = kV k ∧ H5 D = some (.dK kvs) ∧ kvs.length < sizeLine ∧ Nx (upd H5 D (.dK (putK kvs k z))) else Nx H3) := by
  refine ⟨fun i m H => i ≤ n ∧ m = n - i ∧ Pv i H, ⟨n, by omega, by omega, h0⟩, fun i m H hW => ?_⟩
  obtain ⟨hi, hm, pv⟩ := hW
  have hg := hG i H hi pv
  rcases Nat.lt_or_ge i n with lt | ge
  · exact .inr ⟨w.goes i H lt hg, Pv (i + 1), fun H' p => ⟨n - (i + 1), by omega, lt, rfl, p⟩, fun x H' y => hs i x H H' lt pv (w.yields i H x H' lt hg y)⟩
  · have en : i = n := by omega
    rw [en] at pv ⊢
    exact .inl ⟨w.stops H hg, hd H pv⟩
def okc (l : List Int) : Bool := l.all okc1
section
variable {P : Program} {w : World} {K : PySem.W.Frag} {mg : Str → Option Value} {base : Heap}
def chV (l : List Int) : V := if okc l = true then .str (S (l.map Int.toNat)) else .non
def spChOf (K : PySem.W.Frag) : L2.Sp := fun vs H Q _ => ∃ (a : Addr) (l : List Int), vs = [.ref a] ∧ SqL K H a (iv l) ∧ l.length ≤ 100 ∧ ∀ H', Same H H' → Q (chV l) H'
theorem scChOf : FnScope ["codes", "characters", "character", "code"] ["codes"] (defScope sChOf) := ⟨rfl, rfl, rfl, by decide +kernel, rfl, by decide +kernel, by decide +kernel⟩
theorem ok_chOf {f : Addr} {fd : FuncData} (F : Fun K "characters_of" "characters_of" sChOf f fd) (T : Txt K mg) (T3 : Txt3 mg) : FnOk P w K mg base CX0 1 f fd ["codes"] (spChOf K) := by
  have sc := scChOf
  obtain ⟨t2, gChs⟩ := T3.CHARACTERS
  refine F.ok sc (fun vs H Q E h => ?_) (fun cdv A outer s H vs Q E hr h => ?_)
  · obtain ⟨a, l, rfl, _⟩ := h
    rfl
  · obtain ⟨a, l, rfl, hS, hl, q⟩ := h
    refine ⟨_, (pss_cons (ps_set (i := 1) sc.nd rfl (Or.inr rfl) (pe_dc (own := [("character", 2)]) rfl sc.nd (pi_str (pe_gstr rfl gChs)) (blkOk_by (own := [("character", 2)]) (N := ["codes", "characters", "character", "code"]) (sc := defScope sChOf) (by decide +kernel)) (fun _ _ _ _ _ => (pg_name (i := 2) sc.nd rfl (Or.inl rfl))) (fun _ _ _ _ _ => pts_nil) (fun _ _ _ _ _ => (pe_callB call_ord (by rfl) T3.ord (by decide +kernel) (pa_cons (pv 2) pa_nil))) (fun _ _ _ _ _ => (pv 2))))
      (pss_cons (ps_if (pt_not (pt_val (pe_callB (cr_all rfl) (by rfl) T3.all (by decide +kernel) (pa_cons (pe_lc (own := [("code", 3)]) rfl sc.nd (pi_list (pv 0)) (blkOk_by (own := [("code", 3)]) (N := ["codes", "characters", "character", "code"]) (sc := defScope sChOf) (by decide +kernel)) (fun _ _ _ _ _ => (pg_name (i := 3) sc.nd rfl (Or.inl rfl))) (fun _ _ _ _ _ => pts_nil) (fun _ _ _ _ _ => (pe_cmp (pc_din (hu_of hr) (pv 3) (pv 1))))) pa_nil))))
      (pss_one (ps_ret pe_non))
      pss_nil)
      (pss_one (ps_ret (pe_join pe_str (pe_lc (own := [("code", 3)]) rfl sc.nd (pi_list (pv 0)) (blkOk_by (own := [("code", 3)]) (N := ["codes", "characters", "character", "code"]) (sc := defScope sChOf) (by decide +kernel)) (fun _ _ _ _ _ => (pg_name (i := 3) sc.nd rfl (Or.inl rfl))) (fun _ _ _ _ _ => pts_nil) (fun _ _ _ _ _ => (pe_dget (hu_of hr) (pv 1) (pv 3) (fun _ _ => rfl))))))))), ?_⟩
    refine ⟨_, rfl, fun D nD => ?_⟩
    have cs : CHS.cps.size = 94 := by decide +kernel
    refine dc_it (walk_str (z := CHS)) (fun j H' => Same H H' ∧ ∃ kvs : List (Key × V), H' D = some (.dK kvs) ∧ kvs.length ≤ j ∧ ∀ i : Int, valV kvs (.inl i) = chAt j i) ⟨Same.lst (Same.refl H) nD, [], upd_same, Nat.le_refl _, fun i => ?_⟩ (fun _ _ _ _ => trivial) (fun j x H1 H2 hj pv y => ?_) (fun H1 pv => ?_)
    · unfold chAt
      rw [if_neg fun z => by cases z.2]
      rfl
    · obtain ⟨rfl, c, hc, rfl⟩ := y
      obtain ⟨s1, kvs, eD, lk, hk⟩ := pv
      refine ⟨rfl, ?_⟩
      refine ⟨_, rfl, _, rfl, rfl, _, rfl, kvs, .inl ((c : Nat) : Int), rfl, eD, by rw [cs] at hj; exact szlt (by omega), Same.lst s1 nD, _, upd_same, ?_, fun i => ?_⟩
      · have := length_putK kvs (.inl ((c : Nat) : Int)) (V.str ⟨#[c]⟩)
        omega
      · rw [valV_put, hk]
        exact chAt_step (by rw [← Array.getElem?_toList] at hc; exact hc) i
    obtain ⟨s1, kvs, eD, lk, hk⟩ := pv
    have hk2 : ∀ i : Int, valV kvs (.inl i) = if 0 ≤ i ∧ isCh i.toNat = true then some (.str ⟨#[i.toNat]⟩) else none := fun i => by rw [← chAt_all]; exact hk i
    have hk3 : ∀ i : Int, (valV kvs (.inl i)).isSome = okc1 i := fun i => by
      rw [hk2]
      by_cases e : 0 ≤ i ∧ isCh i.toNat = true
      · rw [if_pos e, okc1_iff.mpr e]; rfl
      · rw [if_neg e]
        cases h : okc1 i
        · rfl
        · exact absurd (okc1_iff.mp h) e
    have nDa : ∀ H2, Same H1 H2 → SqL K H2 a (iv l) := fun H2 s => (strans s1 s).seq hS
    refine ⟨_, rfl, a, rfl, ⟨_, nDa _ (Same.refl _)⟩, fun E9 nE => ?_⟩
    refine lc_it (walk_list (K := K) (a := a) (xs := iv l)) (fun j H' => Same H1 H' ∧ H' E9 = some (.lst (((l.take j).map okc1).map V.bl))) ⟨Same.lst (Same.refl _) nE, upd_same⟩ (fun i H' _ pv => nDa _ pv.1) (fun j x H2 H3 hj pv y => ?_) (fun H2 pv => ?_)
    · obtain ⟨rfl, hx⟩ := y
      unfold iv at hx
      rw [List.getElem?_map, Option.map_eq_some_iff] at hx
      obtain ⟨i, hi, rfl⟩ := hx
      refine ⟨rfl, ?_⟩
      refine ⟨_, rfl, _, rfl, D, _, rfl, DGet.k (k := .inl i) (pv.1 _ _ eD), ?_⟩
      refine ⟨_, pv.2, ?_, Same.lst pv.1 nE, ?_⟩
      · rw [List.length_map, List.length_map, List.length_take]
        exact szlt (by omega)
      · rw [upd_same, List.take_add_one, hi, hk3, List.map_append, List.map_append]
        rfl
    have lv : (iv l).length = l.length := List.length_map _
    rw [lv, List.take_length] at pv
    obtain ⟨s2, eE⟩ := pv
    refine ⟨E9, l.map okc1, rfl, SqL.of eE, _, rfl, ?_⟩
    have ea : (l.map okc1).all id = okc l := by
      rw [List.all_map]
      rfl
    rw [ea]
    cases ho : okc l with
    | false =>
      refine iteT ?_
      have := q H2 (strans s1 s2)
      unfold chV at this
      rw [ho] at this
      exact this
    | true =>
      refine iteF ?_
      refine ⟨⟨_, rfl⟩, _, rfl, a, rfl, ⟨_, nDa _ s2⟩, fun G9 nG => ?_⟩
      refine lc_it (walk_list (K := K) (a := a) (xs := iv l)) (fun j H' => Same H2 H' ∧ H' G9 = some (.lst (((l.take j).map fun c => (⟨#[c.toNat]⟩ : Str)).map V.str))) ⟨Same.lst (Same.refl _) nG, upd_same⟩ (fun i H' _ pv => nDa _ (strans s2 pv.1)) (fun j x H3 H4 hj pv y => ?_) (fun H3 pv => ?_)
      · obtain ⟨rfl, hx⟩ := y
        unfold iv at hx
        rw [List.getElem?_map, Option.map_eq_some_iff] at hx
        obtain ⟨i, hi, rfl⟩ := hx
        have oi : okc1 i = true := List.all_eq_true.mp ho i (List.mem_of_getElem? hi)
        refine ⟨rfl, ?_⟩
        refine ⟨_, rfl, _, rfl, D, .str ⟨#[i.toNat]⟩, rfl, ?_, ?_⟩
        · have e9 := DGet.k (k := .inl i) (pv.1 _ _ (s2 _ _ eD))
          rw [hk2, if_pos (okc1_iff.mp oi)] at e9
          exact e9
        refine ⟨_, pv.2, ?_, Same.lst pv.1 nG, ?_⟩
        · rw [List.length_map, List.length_map, List.length_take]
          exact szlt (by omega)
        · rw [upd_same, List.take_add_one, hi, List.map_append, List.map_append]
          rfl
      rw [lv, List.take_length] at pv
      obtain ⟨s3, eG⟩ := pv
      refine ⟨_, G9, l.map fun c => (⟨#[c.toNat]⟩ : Str), rfl, rfl, .inl (SqL.of eG), ?_, ?_⟩
      · have h1 : ∀ l : List Int, ((l.map fun c => (⟨#[c.toNat]⟩ : Str)).map (·.length)).sum = l.length := fun l => by
          induction l with
          | nil => rfl
          | cons c r ih =>
            rw [List.map_cons, List.map_cons, List.sum_cons, ih, List.length_cons]
            show 1 + r.length = _
            omega
        rw [h1, List.length_map]
        show l.length + l.length * 0 ≤ _
        omega
      · have ej : (l.map fun c => (⟨#[c.toNat]⟩ : Str)) = (l.map Int.toNat).map fun c => (⟨#[c]⟩ : Str) := by rw [List.map_map]; rfl
        rw [ej, join_signs]
        have := q H3 (strans s1 (strans s2 s3))
        unfold chV at this
        rw [ho, if_pos rfl] at this
        exact this
end
end K4

set_option maxRecDepth 100000
set_option maxHeartbeats 4000000
/-! decode_piece -/
namespace K4
open PySem hiding Tok code
open PySem.Spec PyProof.Rows GD K1
open L2 hiding rest
/-- what a row of 32 numbers tells -/
def decO : List Int → Option (Int × Int × Int × List Nat)
  | b0 :: b1 :: b2 :: b3 :: b4 :: b5 :: r =>
    if b0 ≠ 83 ∨ r[25]? ≠ some 83 then none
    else if b2 ≤ b1 ∨ ¬ (1 ≤ b5 ∧ b5 ≤ 24) then none
    else if ((r.drop b5.toNat).take (25 - b5.toNat)).any (fun c => !decide (c = 0)) = true then none
    else if okc (r.take b5.toNat) = true then some (b1, b2, b3 * 256 + b4, (r.take b5.toNat).map Int.toNat) else none
  | _ => none
theorem decO_eq (b0 b1 b2 b3 b4 b5 : Int) (r : List Int) : decO (b0 :: b1 :: b2 :: b3 :: b4 :: b5 :: r) = (if b0 ≠ 83 ∨ r[25]? ≠ some 83 then none
    else if b2 ≤ b1 ∨ ¬ (1 ≤ b5 ∧ b5 ≤ 24) then none
    else if ((r.drop b5.toNat).take (25 - b5.toNat)).any (fun c => !decide (c = 0)) = true then none
    else if okc (r.take b5.toNat) = true then some (b1, b2, b3 * 256 + b4, (r.take b5.toNat).map Int.toNat) else none) := rfl
/-- a tuple of index, many, number and text; or None -/
def DecV (H : Hp) (v : V) : Option (Int × Int × Int × List Nat) → Prop
  | none => v = .non
  | some (i, m, n, p) => ∃ q, v = .ref q ∧ H q = some (.tup [.int i, .int m, .int n, .str (S p)])
theorem six {b : List Int} (h : b.length = 32) : ∃ b0 b1 b2 b3 b4 b5 r, b = b0 :: b1 :: b2 :: b3 :: b4 :: b5 :: r ∧ r.length = 26 := by
  match b, h with
  | b0 :: b1 :: b2 :: b3 :: b4 :: b5 :: r, h => exact ⟨b0, b1, b2, b3, b4, b5, r, rfl, by simpa using h⟩
theorem ne_ff {i j : Int} (h : i = j) : (!decide (V.int i = V.int j)) = false := by rw [h, decide_eq_true rfl]; rfl
theorem ne_tt {i j : Int} (h : i ≠ j) : (!decide (V.int i = V.int j)) = true := by rw [decide_eq_false fun z => h (by injection z)]; rfl
theorem iteE {c : Bool} {A B : Prop} (h : c = false) (x : B) : if c = true then A else B := by
  rw [h]
  exact iteF x
theorem iteY {c : Bool} {A B : Prop} (h : c = true) (x : A) : if c = true then A else B := by
  rw [h]
  exact iteT x
theorem atI_m1 {xs : List V} {v : V} (hl : xs.length = 32) (h : xs[31]? = some v) : atI xs (-(1 : Int)) = some v := by
  unfold atI
  rw [hl]
  exact h
theorem iv_get {l : List Int} {i : Nat} {x : Int} (h : l[i]? = some x) : (iv l)[i]? = some (.int x) := by
  unfold iv
  rw [List.getElem?_map, h]
  rfl
theorem iv_len (l : List Int) : (iv l).length = l.length := List.length_map _
theorem cut_n {b : List Int} (n : Nat) : cutV (iv b) none (some (n : Int)) = iv (b.take n) := by
  unfold cutV
  rw [HT.sIx_none, HT.sIx_nat, List.drop_zero, Nat.sub_zero, iv_len]
  unfold iv
  rw [List.map_take, ← List.length_map (f := V.int) (as := b)]
  exact (List.take_eq_take_min).symm
theorem cut_mid {b : List Int} (h : b.length = 32) {m n : Nat} (h2 : m + n ≤ 32) : cutV (iv b) (some (m : Int)) (some ((m + n : Nat) : Int)) = iv ((b.drop m).take n) := by
  unfold cutV
  have e1 : HT.sIx (iv b).length 0 (some (m : Int)) = m := by rw [HT.sIx_nat, iv_len, h]; omega
  have e2 : HT.sIx (iv b).length (iv b).length (some ((m + n : Nat) : Int)) = m + n := by rw [HT.sIx_nat, iv_len, h]; omega
  rw [e1, e2, Nat.add_sub_cancel_left]
  unfold iv
  rw [List.map_take, List.map_drop]
theorem cut_m1 {b : List Int} (h : b.length = 32) {m : Nat} (h2 : m ≤ 31) : cutV (iv b) (some (m : Int)) (some (-(1 : Int))) = iv ((b.drop m).take (31 - m)) := by
  unfold cutV
  rw [HT.sIx_nat, iv_len, h, Nat.min_eq_left (by omega)]
  have e : HT.sIx 32 32 (some (-(1 : Int))) = 31 := by decide
  rw [e]
  unfold iv
  rw [List.map_take, List.map_drop]
def nz (c : Int) : Bool := !decide (c = 0)
theorem nz_v (c : Int) : (!decide (V.int c = V.int 0)) = nz c := by
  unfold nz
  by_cases h : c = 0
  · rw [h, decide_eq_true rfl, decide_eq_true rfl]
  · rw [decide_eq_false h, decide_eq_false fun z => h (by injection z)]
section
variable {P : Program} {w : World} {K : PySem.W.Frag} {mg : Str → Option Value} {base : Heap}
def spDec (K : PySem.W.Frag) : L2.Sp := fun vs H Q _ => ∃ (a : Addr) (b : List Int), vs = [.ref a] ∧ SqL K H a (iv b) ∧ b.length = 32 ∧ ∀ H' v, Same H H' → DecV H' v (decO b) → Q v H'
theorem scDec : FnScope ["block", "_", "index", "many", "high", "low", "length", "byte", "text"] ["block"] (defScope sDec) := ⟨rfl, rfl, rfl, by decide +kernel, rfl, by decide +kernel, by decide +kernel⟩
theorem ok_dec {f f1 : Addr} {fd fd1 : FuncData} (F : Fun K "decode_piece" "decode_piece" sDec f fd) (T : Txt K mg) (T3 : Txt3 mg)
    (FC : FO P w K mg base CX0 1 "characters_of" ["codes"] (spChOf K) f1 fd1) : FnOk P w K mg base CX0 2 f fd ["block"] (spDec K) := by
  have sc := scDec
  obtain ⟨t1, gMark⟩ := T3.MARK
  obtain ⟨t2, gBlock⟩ := T3.BLOCK
  obtain ⟨t3, gHead⟩ := T3.HEAD
  obtain ⟨t4, gPiece⟩ := T3.PIECE
  refine F.ok sc (fun vs H Q E h => ?_) (fun cdv A outer s H vs Q E hr h => ?_)
  · obtain ⟨a, b, rfl, _⟩ := h
    rfl
  · obtain ⟨a, b, rfl, hS, hb, q⟩ := h
    refine ⟨_, (pss_cons (ps_if (PW.pt (pw_or (pt_cmpR op_ne (pe_callB call_len_seq (by rfl) T.len (by decide +kernel) (pa_cons (pv 0) pa_nil)) (pe_gint rfl gBlock) (nomark _)) (pw_or (pt_cmpR op_ne (pe_ix ix_list (pv 0) pe_int (fun _ _ => rfl)) (pe_gint rfl gMark) (nomark _)) (pw_or1 (pt_cmpR op_ne (pe_ix ix_list (pv 0) (pe_un un_neg pe_int) (fun _ _ => rfl)) (pe_gint rfl gMark) (nomark _))))))
      (pss_one (ps_ret pe_non))
      pss_nil)
      (pss_cons (ps_asg (pe_slice sl_list (pv 0) po_none (po_some (pe_gint rfl gHead))) (pg_lst rfl (pgs_cons (pg_name (i := 1) sc.nd rfl (Or.inl rfl)) (pgs_cons (pg_name (i := 2) sc.nd rfl (Or.inl rfl)) (pgs_cons (pg_name (i := 3) sc.nd rfl (Or.inl rfl)) (pgs_cons (pg_name (i := 4) sc.nd rfl (Or.inl rfl)) (pgs_cons (pg_name (i := 5) sc.nd rfl (Or.inl rfl)) (pgs_cons (pg_name (i := 6) sc.nd rfl (Or.inl rfl)) pgs_nil))))))))
      (pss_cons (ps_if (PW.pt (pw_or (pt_cmpR op_ge (pv 2) (pv 3) (nomark _)) (pw_or1 (pt_not (pt_chain op_le op_le pe_int (pv 6) (pe_gint rfl gPiece))))))
      (pss_one (ps_ret pe_non))
      pss_nil)
      (pss_cons (ps_if (pt_val (pe_callB (cr_any rfl) (by rfl) T3.any (by decide +kernel) (pa_cons (pe_lc (own := [("byte", 7)]) rfl sc.nd (pi_list (pe_slice sl_list (pv 0) (po_some (pe_op op_add (pe_gint rfl gHead) (pv 6))) (po_some (pe_un un_neg pe_int)))) (blkOk_by (own := [("byte", 7)]) (N := ["block", "_", "index", "many", "high", "low", "length", "byte", "text"]) (sc := defScope sDec) (by decide +kernel)) (fun _ _ _ _ _ => (pg_name (i := 7) sc.nd rfl (Or.inl rfl))) (fun _ _ _ _ _ => pts_nil) (fun _ _ _ _ _ => (pe_cmpR op_ne (pv 7) pe_int (nomark _)))) pa_nil)))
      (pss_one (ps_ret pe_non))
      pss_nil)
      (pss_cons (ps_set (i := 8) sc.nd rfl (Or.inl rfl) (pe_call FC.ok hr (by rfl) FC.m FC.kp FC.b .nil pass0 (pa_cons (pe_slice sl_list (pv 0) (po_some (pe_gint rfl gHead)) (po_some (pe_op op_add (pe_gint rfl gHead) (pv 6)))) pa_nil)))
      (pss_one (ps_ret (pe_ifExp (pt_cmpR op_isN (pv 8) pe_non (nomark _)) pe_non (pe_tup (pa_cons (pv 2) (pa_cons (pv 3) (pa_cons (pe_op op_add (pe_op op_mul (pv 4) pe_int) (pv 5)) (pa_cons (pv 8) pa_nil))))))))))))), ?_⟩
    obtain ⟨b0, b1, b2, b3, b4, b5, r, eb, hr26⟩ := six hb
    have lb := (iv_len b).trans hb
    obtain ⟨last, e31⟩ : ∃ x, r[25]? = some x := ⟨_, List.getElem?_eq_getElem (by omega)⟩
    have bad : ∀ H', Same H H' → decO b = none → Q .non H' := fun H' s e => q H' .non s (by rw [e]; exact rfl)
    refine ⟨_, rfl, a, _, rfl, .inl hS, rfl, _, rfl, ?_⟩
    refine iteE (ne_ff (by rw [lb]; rfl)) ?_
    refine ⟨_, rfl, a, _, _, _, rfl, rfl, hS, atI_nat (j := 0) (iv_get (x := b0) (by rw [eb]; rfl)), rfl, _, rfl, ?_⟩
    by_cases h0 : b0 = 83
    case neg =>
      refine iteY (ne_tt h0) (bad H (Same.refl H) ?_)
      rw [eb, decO_eq, if_pos (.inl h0)]
    refine iteE (ne_ff h0) ?_
    refine ⟨_, rfl, _, rfl, a, _, _, _, rfl, rfl, hS, atI_m1 lb (iv_get (x := last) (by rw [eb]; exact e31)), rfl, _, rfl, ?_⟩
    by_cases h1 : last = 83
    case neg =>
      refine iteY (ne_tt h1) (bad H (Same.refl H) ?_)
      rw [eb, decO_eq, if_pos (.inr fun z => h1 (by rw [e31] at z; exact Option.some.inj z))]
    refine iteE (ne_ff h1) ?_
    have ed : decO b = (if b2 ≤ b1 ∨ ¬ (1 ≤ b5 ∧ b5 ≤ 24) then none
      else if ((r.drop b5.toNat).take (25 - b5.toNat)).any (fun c => !decide (c = 0)) = true then none
      else if okc (r.take b5.toNat) = true then some (b1, b2, b3 * 256 + b4, (r.take b5.toNat).map Int.toNat) else none) := by
      rw [eb, decO_eq, if_neg fun z => z.elim (fun z => z h0) fun z => z (by rw [e31, h1])]
    refine ⟨_, rfl, _, rfl, a, _, rfl, hS, fun u nu => ?_⟩
    have e6 : cutV (iv b) none (some 6) = [.int b0, .int b1, .int b2, .int b3, .int b4, .int b5] := by
      have := cut_n (b := b) 6
      rw [eb] at this ⊢
      exact this
    rw [e6] at *
    have s1 : Same H (upd H u (.lst [.int b0, .int b1, .int b2, .int b3, .int b4, .int b5])) := Same.lst (Same.refl H) nu
    refine ⟨u, _, rfl, SqL.of upd_same, rfl, _, _, rfl, _, _, rfl, _, _, rfl, _, _, rfl, _, _, rfl, _, _, rfl, rfl, ?_⟩
    refine ⟨_, rfl, _, rfl, _, _, rfl, rfl, _, rfl, ite2 (fun h2 => ?_) (fun h2 => ?_)⟩
    · have h2 : b2 ≤ b1 := of_decide_eq_true h2
      exact bad _ s1 (by rw [ed, if_pos (.inl h2)])
    have h2 : ¬ b2 ≤ b1 := fun z => h2 (decide_eq_true z)
    have out : ∀ H', Same H H' → ¬ (1 ≤ b5 ∧ b5 ≤ 24) → Q .non H' := fun H' s n => bad H' s (by rw [ed, if_pos (.inr n)])
    refine ⟨_, rfl, _, _, rfl, rfl, _, rfl, ite2 (fun h3 => ?_) (fun h3 => ?_)⟩
    rotate_left
    · refine ⟨_, rfl, iteT (out _ s1 fun z => h3 (decide_eq_true z.1))⟩
    have h3 : (1 : Int) ≤ b5 := of_decide_eq_true h3
    refine ⟨_, _, rfl, rfl, _, rfl, ?_⟩
    by_cases h4 : b5 ≤ 24
    case neg =>
      exact iteY (by rw [decide_eq_false h4]; rfl) (out _ s1 fun z => h4 z.2)
    refine iteE (by rw [decide_eq_true h4]; rfl) ?_
    obtain ⟨n, rfl⟩ : ∃ n : Nat, b5 = (n : Int) := ⟨b5.toNat, by omega⟩
    have ed2 : decO b = (if ((r.drop n).take (25 - n)).any (fun c => !decide (c = 0)) = true then none
      else if okc (r.take n) = true then some (b1, b2, b3 * 256 + b4, (r.take n).map Int.toNat) else none) := by
      rw [ed, if_neg fun z => z.elim h2 fun z => z ⟨h3, h4⟩, Int.toNat_natCast]
    have sq : ∀ H', Same H H' → SqL K H' a (iv b) := fun H' s => s.seq hS
    have n24 : n ≤ 24 := by omega
    have ea : (6 : Int) + (n : Int) = ((6 + n : Nat) : Int) := by omega
    have ec : cutV (iv b) (some ((6 : Int) + (n : Int))) (some (-(1 : Int))) = iv ((r.drop n).take (25 - n)) := by
      rw [ea, cut_m1 hb (by omega), eb]
      have e1 : (b0 :: b1 :: b2 :: b3 :: b4 :: (n : Int) :: r).drop (6 + n) = r.drop n := by
        rw [← List.drop_drop]; rfl
      rw [e1, show 31 - (6 + n) = 25 - n by omega]
    refine ⟨_, rfl, _, rfl, _, _, rfl, rfl, _, rfl, _, rfl, _, rfl, a, _, rfl, sq _ s1, fun w2 nw => ?_⟩
    rw [ec] at *
    have s2 := snew (o := .lst (iv ((r.drop n).take (25 - n)))) s1 nw
    refine ⟨w2, rfl, ⟨_, SqL.of upd_same⟩, fun D nD => ?_⟩
    refine lc_it (walk_list (K := K) (a := w2) (xs := iv ((r.drop n).take (25 - n)))) (fun j H' => Same (upd (upd H u (.lst [.int b0, .int b1, .int b2, .int b3, .int b4, .int (n : Int)])) w2 (.lst (iv ((r.drop n).take (25 - n))))) H' ∧ H' D = some (.lst (((((r.drop n).take (25 - n)).take j).map nz).map V.bl)))
      ⟨Same.lst (Same.refl _) nD, upd_same⟩ (fun i H' _ pv => SqL.of (pv.1 _ _ upd_same)) (fun j x H2 H3 hj pv y => ?_) (fun H2 pv => ?_)
    · obtain ⟨rfl, hx⟩ := y
      have hx : (iv ((r.drop n).take (25 - n)))[j]? = some x := hx
      unfold iv at hx
      rw [List.getElem?_map, Option.map_eq_some_iff] at hx
      obtain ⟨i, hi, rfl⟩ := hx
      have lt : ((((r.drop n).take (25 - n)).take j)).length ≤ 26 := by
        rw [List.length_take, List.length_take, List.length_drop]
        omega
      refine ⟨rfl, ?_⟩
      refine ⟨_, rfl, rfl, ?_⟩
      refine ⟨_, pv.2, ?_, Same.lst pv.1 nD, ?_⟩
      · rw [List.length_map, List.length_map]
        exact szlt (by omega)
      · rw [upd_same, nz_v]
        conv => rhs; rw [List.take_add_one, hi, List.map_append, List.map_append]
        rfl
    rw [iv_len, List.take_length] at pv
    obtain ⟨s3, eD⟩ := pv
    have s4 := strans s2 s3
    refine ⟨D, ((r.drop n).take (25 - n)).map nz, rfl, SqL.of eD, _, rfl, ?_⟩
    have ean : (((r.drop n).take (25 - n)).map nz).any id = ((r.drop n).take (25 - n)).any fun c => !decide (c = 0) := by
      rw [List.any_map]
      rfl
    by_cases h5 : ((r.drop n).take (25 - n)).any (fun c => !decide (c = 0)) = true
    · exact iteY (ean.trans h5) (bad _ s4 (by rw [ed2, if_pos h5]))
    have h5f : (((r.drop n).take (25 - n)).any fun c => !decide (c = 0)) = false := by
      cases z : ((r.drop n).take (25 - n)).any fun c => !decide (c = 0)
      · rfl
      · exact absurd z h5
    refine iteE (ean.trans h5f) ?_
    have ed3 := ed2
    rw [if_neg h5] at ed3
    have ec2 : cutV (iv b) (some (6 : Int)) (some ((6 : Int) + (n : Int))) = iv (r.take n) := by
      have := cut_mid hb (m := 6) (n := n) (by omega)
      rw [ea]
      refine this.trans ?_
      rw [eb]
      rfl
    refine ⟨_, rfl, _, rfl, _, rfl, _, _, rfl, rfl, _, rfl, a, _, rfl, sq _ s4, fun w3 nw3 => ?_⟩
    rw [ec2] at *
    have s5 := snew (o := .lst (iv (r.take n))) s4 nw3
    refine ⟨w3, r.take n, rfl, SqL.of upd_same, by rw [List.length_take]; omega, fun H5 s6 => ?_⟩
    have s7 := strans s5 s6
    by_cases h6 : okc (r.take n) = true
    · rw [if_pos h6] at ed3
      have ech : chV (r.take n) = .str (S ((r.take n).map Int.toNat)) := by unfold chV; rw [if_pos h6]
      rw [ech]
      refine ⟨_, rfl, rfl, _, rfl, iteF ?_⟩
      refine ⟨_, rfl, _, rfl, _, rfl, _, _, rfl, rfl, .inr (by decide), _, rfl, _, _, rfl, rfl, _, rfl, (by show 4 ≤ sizeLine; decide), fun p np => ?_⟩
      refine q _ _ (snew s7 np) ?_
      rw [ed3]
      exact ⟨p, rfl, upd_same⟩
    · rw [if_neg h6] at ed3
      have ech : chV (r.take n) = .non := by unfold chV; rw [if_neg h6]
      rw [ech]
      exact ⟨_, rfl, rfl, _, rfl, iteT (bad _ s7 ed3)⟩
end
end K4

set_option maxRecDepth 100000
set_option maxHeartbeats 4000000
/-! the law's pieces, its signs -/
namespace K4
open PySem hiding Tok code
open PySem.Spec PyProof.Rows GD K1
open L2 hiding rest
theorem rep_cat (c : Nat) : ∀ (n : Nat) (acc : Array Nat), (List.replicate n #[c]).foldl (· ++ ·) acc = acc ++ (List.replicate n c).toArray
  | 0, acc => by simp
  | n + 1, acc => by
    rw [List.replicate_succ, List.foldl_cons, rep_cat c n, Array.append_assoc, List.replicate_succ]
    congr 1
    simp
/-- one sign, so and so often -/
theorem op_rep_one {X : Cx} : OpR X (binaryOp .Mult) (fun x y H Q => ∃ (c n : Nat), x = .str ⟨#[c]⟩ ∧ y = .int ((n : Nat) : Int) ∧ 1 ≤ n ∧ n ≤ 5000 ∧ Q (.str (S (List.replicate n c))) H) := by
  intro pins s σ H x y v u Q I rx ry h
  obtain ⟨c, n, rfl, rfl, h1, h2, q⟩ := h
  obtain ⟨t, rfl⟩ := rx
  obtain ⟨t', rfl⟩ := ry
  have l1 : (⟨#[c]⟩ : Str).length = 1 := rfl
  refine PySem.P.mul_str ?_ (fun _ _ => ?_) (fun _ _ => ?_) ?_
  · rw [decide_eq_false (by omega), decide_eq_false (by omega)]
    rfl
  · rw [l1]
    have : (1 : Int) ≤ (2 ^ 63 - 1) / ((n : Nat) : Int) := (Int.le_ediv_iff_mul_le (by omega)).mpr (by omega)
    omega
  · rw [l1, Nat.one_mul, Int.toNat_natCast]
    unfold Builtin.Str.tooLong
    exact decide_eq_false (by have := szle h2; omega)
  · rw [if_neg (by omega)]
    by_cases e : n = 1
    · subst e
      rw [if_pos (by rfl)]
      exact ⟨.str _, H, I.tok _, ⟨_, rfl⟩, q⟩
    · have e2 : (((n : Nat) : Int) == 1 || (⟨#[c]⟩ : Str).length == 0) = false := by
        rw [l1, show (((n : Nat) : Int) == 1) = false from beq_eq_false_iff_ne.mpr (by omega)]
        rfl
      rw [e2, if_neg Bool.false_ne_true, Int.toNat_natCast]
      have e3 : (⟨(List.replicate n (⟨#[c]⟩ : Str).cps).foldl (· ++ ·) #[]⟩ : Str) = S (List.replicate n c) := by
        rw [show (⟨#[c]⟩ : Str).cps = #[c] from rfl, rep_cat]
        unfold S
        congr 1
        simp
      rw [e3]
      exact ⟨by rw [S_len, List.length_replicate]; exact szle h2, ⟨.str _, H, I.tok _, ⟨_, rfl⟩, q⟩⟩
section
variable {P : Program} {w : World} {K : PySem.W.Frag} {mg : Str → Option Value} {base : Heap}
end
end K4

set_option maxRecDepth 100000
set_option maxHeartbeats 4000000
/-! the law's pieces -/
namespace K4
open PySem hiding Tok code
open PySem.Spec PyProof.Rows GD K1
open L2 hiding rest
def hd6 (i many num : Int) (p : List Nat) : List Int := [83, i, many, num / 256, num % 256, (p.length : Int)]
theorem enc_hd (i many num : Int) (p : List Nat) : enc i many num p = hd6 i many num p ++ codes p ++ List.replicate (25 - p.length) 0 ++ [83] := rfl
theorem codes_snoc (p : List Nat) (c : Nat) : codes (p ++ [c]) = codes p ++ [((c : Nat) : Int)] := by
  unfold codes
  rw [List.map_append]
  rfl
theorem iv_snoc (l : List Int) (x : Int) : iv l ++ [V.int x] = iv (l ++ [x]) := by
  unfold iv
  rw [List.map_append]
  rfl
section
variable {P : Program} {w : World} {K : PySem.W.Frag} {mg : Str → Option Value} {base : Heap}
def spLPieces : L2.Sp := fun vs H Q _ => ∃ (num : Int) (L : List Nat), vs = [.int num, .str (S L)] ∧ L.length ≤ 720 ∧
  ∀ H' D ws, Same H H' → H D = none → H' D = some (.lst ws) → Blks H' ws (encR num L) → Q (.ref D) H'
end
end K4

set_option maxRecDepth 100000
set_option maxHeartbeats 16000000
/-! the law of pieces -/
namespace K4
open PySem hiding Tok code
open PySem.Spec PyProof.Rows GD K1
open L2 hiding rest
theorem piece_pos {L : List Nat} {k : Nat} (h : k < cnt L) : 1 ≤ (piece L k).length := by
  unfold piece
  unfold cnt at h
  rw [List.length_take, List.length_drop]
  omega
theorem piece_mem {L : List Nat} {k c : Nat} (h : c ∈ piece L k) : c ∈ L := List.mem_of_mem_drop (List.mem_of_mem_take h)
theorem codes_nat (p : List Nat) : (codes p).map Int.toNat = p := by
  unfold codes
  rw [List.map_map]
  exact (List.map_congr_left fun c _ => Int.toNat_natCast c).trans (List.map_id p)
theorem codes_ok {p : List Nat} (h : ∀ c ∈ p, isCh c = true) : okc (codes p) = true := by
  unfold okc codes
  rw [List.all_map]
  refine List.all_eq_true.mpr fun c hc => ?_
  show okc1 ((c : Nat) : Int) = true
  exact okc1_iff.mpr ⟨by omega, by rw [Int.toNat_natCast]; exact h c hc⟩
/-- a piece's block is read so -/
theorem dec_enc {i many num : Int} {p : List Nat} (h1 : i < many) (hn : 0 ≤ num) (hp : 1 ≤ p.length) (hp2 : p.length ≤ 24) (hc : ∀ c ∈ p, isCh c = true) : decO (enc i many num p) = some (i, many, num, p) := by
  have e : enc i many num p = 83 :: i :: many :: (num / 256) :: (num % 256) :: (p.length : Int) :: (codes p ++ (List.replicate (25 - p.length) 0 ++ [83])) := by
    unfold enc
    rw [List.append_assoc, List.append_assoc]
    rfl
  rw [e, decO_eq, Int.toNat_natCast]
  have l1 := codes_len p
  have t1 : (codes p ++ (List.replicate (25 - p.length) (0 : Int) ++ [83])).take p.length = codes p := List.take_left' l1
  have d1 : (codes p ++ (List.replicate (25 - p.length) (0 : Int) ++ [83])).drop p.length = List.replicate (25 - p.length) 0 ++ [83] := List.drop_left' l1
  have t2 : (List.replicate (25 - p.length) (0 : Int) ++ [83]).take (25 - p.length) = List.replicate (25 - p.length) 0 := List.take_left' List.length_replicate
  have g1 : (codes p ++ (List.replicate (25 - p.length) (0 : Int) ++ [83]))[25]? = some 83 := by
    rw [List.getElem?_append_right (by omega), l1, List.getElem?_append_right (by rw [List.length_replicate]; omega), List.length_replicate, show 25 - p.length - (25 - p.length) = 0 by omega]
    rfl
  rw [if_neg (by rw [g1]; simp), if_neg (fun z => z.elim (fun z => by omega) fun z => z ⟨by omega, by omega⟩), d1, t2, t1, if_neg, if_pos (codes_ok hc), codes_nat, show num / 256 * 256 + num % 256 = num by omega]
  intro z
  rw [List.any_eq_true] at z
  obtain ⟨x, hx, hz⟩ := z
  rw [List.eq_of_mem_replicate hx] at hz
  exact absurd hz (by decide)
theorem cl_int (i : Int) : PyData.canLay0 (.int i) = true := rfl
theorem cl_all {l : List PyData} (h : ∀ d ∈ l, PyData.canLay0 d = true) : PyData.canLayAll0 l = true := by
  induction l with
  | nil => rfl
  | cons a r ih =>
    rw [PyData.canLayAll0, h a List.mem_cons_self, ih fun d hd => h d (List.mem_cons_of_mem _ hd)]
    rfl
theorem dp_all {l : List PyData} {n : Nat} (h : ∀ d ∈ l, d.depth ≤ n) : PyData.depthAll l ≤ n := by
  induction l with
  | nil => exact Nat.zero_le _
  | cons a r ih =>
    rw [PyData.depthAll]
    exact Nat.max_le.mpr ⟨h a List.mem_cons_self, ih fun d hd => h d (List.mem_cons_of_mem _ hd)⟩
theorem sh_of {d : PyData} (h1 : PyData.canLay0 d = true) (h2 : d.depth ≤ 64) : SeqAt.shaped d = true := by
  unfold SeqAt.shaped
  rw [h1, decide_eq_true h2]
  rfl
def rowD (b : List Int) : PyData := .list (b.map PyData.int)
theorem rowD_cl (b : List Int) : PyData.canLay0 (rowD b) = true := cl_all fun d hd => by
  obtain ⟨i, _, rfl⟩ := List.mem_map.mp hd
  rfl
theorem rowD_dp (b : List Int) : (rowD b).depth ≤ 1 := by
  unfold rowD
  rw [PyData.depth]
  have := dp_all (l := b.map PyData.int) (n := 0) fun d hd => by
    obtain ⟨i, _, rfl⟩ := List.mem_map.mp hd
    rw [PyData.depth]; omega
  omega
def blkD (bs : List (List Int)) : PyData := .list (bs.map rowD)
theorem blkD_sh (bs : List (List Int)) : SeqAt.shaped (blkD bs) = true := by
  refine sh_of (cl_all fun d hd => ?_) ?_
  · obtain ⟨b, _, rfl⟩ := List.mem_map.mp hd
    exact rowD_cl b
  · unfold blkD
    rw [PyData.depth]
    have := dp_all (l := bs.map rowD) (n := 1) fun d hd => by
      obtain ⟨b, _, rfl⟩ := List.mem_map.mp hd
      exact rowD_dp b
    omega
theorem blkD_eq (bs : List (List Int)) : PyData.eqv (blkD bs) (blkD bs) = true := SeqAt.eqv_refl _ (SeqAt.canLay_of_shaped (blkD_sh bs))
theorem iv_dp {K : PySem.W.Frag} {H : Hp} : ∀ b : List Int, DpAll K H (iv b) (b.map PyData.int)
  | [] => .nil
  | i :: r => .cons (.int i) (iv_dp r)
theorem blk_dp {K : PySem.W.Frag} {H : Hp} {ws : List V} {bs : List (List Int)} (h : Blks H ws bs) : DpAll K H ws (bs.map rowD) := by
  induction h with
  | nil => exact .nil
  | cons a _ ih =>
    obtain ⟨q, rfl, k⟩ := a
    exact .cons (.lst (SqL.of k) (iv_dp _)) ih
def tolD (i m n : Int) (p : List Nat) : PyData := .tuple [.int i, .int m, .int n, .str (S p)]
theorem tolD_sh {i m n : Int} {p : List Nat} (h : ∀ c ∈ p, isCh c = true) : SeqAt.shaped (tolD i m n p) = true := by
  refine sh_of (cl_all fun d hd => ?_) ?_
  · simp only [List.mem_cons, List.not_mem_nil, or_false] at hd
    rcases hd with rfl | rfl | rfl | rfl
    · rfl
    · rfl
    · rfl
    · show PyData.strOk (S p) = true
      unfold PyData.strOk
      show p.toArray.all _ = true
      rw [List.all_toArray]
      refine List.all_eq_true.mpr fun c hc => decide_eq_true ?_
      have := h c hc
      unfold isCh at this
      have := of_decide_eq_true this
      omega
  · unfold tolD
    simp only [PyData.depth, PyData.depthAll]
    decide
theorem tolD_eq {i m n : Int} {p : List Nat} (h : ∀ c ∈ p, isCh c = true) : PyData.eqv (tolD i m n p) (tolD i m n p) = true := SeqAt.eqv_refl _ (SeqAt.canLay_of_shaped (tolD_sh h))
end K4

set_option maxRecDepth 100000
set_option maxHeartbeats 4000000
/-! OutOfRange, made and raised -/
namespace K5
open PySem hiding Tok code
open PySem.Spec PyProof.Rows GD K1 GS
open L2 hiding rest
abbrev cOOR : Stmt := topS 3
abbrev mOInit : Stmt := inClass cOOR 0
structure FO (P : Program) (w : World) (K : PySem.W.Frag) (mg : Str → Option Value) (base : Heap) (CX : CXT) (k : Nat) (x : Str) (ps : List Str) (sp : L2.Sp) (f : Addr) (fd : FuncData) : Prop where
  m : mg x = some (.ref f)
  kp : PySem.W.keepIn K (.ref f) = true
  b : Binds K fd ps []
  ok : FnOk P w K mg base CX k f fd ps sp
structure MO (P : Program) (w : World) (K : PySem.W.Frag) (mg : Str → Option Value) (base : Heap) (CX : CXT) (k : Nat) (C : Addr) (m : Str) (ps : List Str) (sp : L2.Sp) (f : Addr) (fd : FuncData) : Prop where
  mt : Meth K C m f
  bi : Binds K fd ps []
  ok : FnOk P w K mg base CX k f fd ps sp
/-- what the top has written of OutOfRange -/
structure TxO (K : PySem.W.Frag) (mg : Str → Option Value) (D fI : Addr) : Prop where
  g : mg "OutOfRange" = some (.ref D)
  oc : OexC K D
  ini : PySem.W.findIn K (.ref D) "__init__" = some (some (.ref fI))
  tyI : PySem.W.typeIn K (.ref fI) = some (.type "function")
  noName : PySem.W.findIn K (.ref D) "name" = some none
  xf : XfC K D
  eO : PySem.W.exmOne K (.ref D) (.ref D) = some true
theorem szle {n : Nat} (h : n ≤ 5000) : n ≤ sizeLine := Nat.le_trans h (by decide)
theorem szlt {n : Nat} (h : n ≤ 5000) : n < sizeLine := Nat.lt_of_le_of_lt h (by decide)
theorem sfree {H H' : Hp} {p : Addr} (s : Same H H') (n : H' p = none) : H p = none := by
  cases e : H p with
  | none => rfl
  | some o => rw [s p o e] at n; cases n
theorem strans {H H1 H2 : Hp} (a : Same H H1) (b : Same H1 H2) : Same H H2 := fun p o e => b p o (a p o e)
theorem snew {H H1 : Hp} {D : Addr} {o : HO} (s : Same H H1) (n : H1 D = none) : Same H (upd H1 D o) := strans s (Same.lst (Same.refl H1) n)
theorem pe_gstr {X : Cx} {x z : Str} {t : PySem.Tok} {pos : Pos} (hg : Gl X x) (hm : X.mg x = some (.str z t)) (hd : (x == ("__debug__" : Str)) = false := by decide) : PE X (.Name x pos) (tC (.str z)) := pe_glob hg hm ⟨_, rfl⟩ hd
theorem pe_gint {X : Cx} {x : Str} {i : Int} {t : PySem.Tok} {pos : Pos} (hg : Gl X x) (hm : X.mg x = some (.int i t)) (hd : (x == ("__debug__" : Str)) = false := by decide) : PE X (.Name x pos) (tC (.int i)) := pe_glob hg hm ⟨_, rfl⟩ hd
def rLenK (K : PySem.W.Frag) : List V → Hp → VK → Prop := fun xs H Q => ∃ p ys, xs = [.ref p] ∧ (SqL K H p ys ∨ SqT K H p ys) ∧ Q (.int ys.length) H
theorem call_lenK {X : Cx} : CallR X (.builtin "len") (rLenK X.K) := call_len_seq
section
variable {P : Program} {w : World} {K : PySem.W.Frag} {mg : Str → Option Value} {base : Heap} {D fI cc cda : Addr}
/-- an error of that class that names z, ahead of heap H -/
def OErr (E : XK) (D : Addr) (H : Hp) (z : Str) : Prop := ∀ d H', Same H H' → H d = none → H' d = some (.xd [("name", .str z)]) → E (.ref D) (some d) H'
def spOInit (D : Addr) : L2.Sp := fun vs H Q _ => ∃ (a : Addr) (z : Str), vs = [.ref a, .str z] ∧ H a = some (exo a D none) ∧ z.length ≤ 100 ∧
  ∀ dx, H dx = none → dx ≠ a → Q .non (upd (upd H dx (exd dx [("name", .str z)])) a (exo a D (some dx)))
theorem nsOInit : NdefX.NScope ["self", "name", "__class__"] ["self", "name"] ["__class__"] (defScope mOInit) := NdefX.nscope_by (by decide +kernel)
theorem ok_oinit (T : SupK P K mg "__init__" "OutOfRange.__init__" mOInit fI cc cda D) (noName : PySem.W.findIn K (.ref D) "name" = some none) :
    ∃ fd, Binds K fd ["self", "name"] [] ∧ FnOk P w K mg base CX0 1 fI fd ["self", "name"] (spOInit D) := by
  refine ok_super (CX := CX0) (k := 0) (sp := spOInit D) (N := ["self", "name", "__class__"]) T nsOInit rfl (by decide +kernel) rfl rfl (fun _ => rfl) (fun _ _ => rfl) (fun _ => rfl) (fun _ => rfl) (fun kV doc pm an ct => .all fun us hl => match us, hl with | [_, _], _ => rfl) (fun vs H Q E h => ?_) (fun A outer s H vs Q E hr h => ?_)
  · obtain ⟨a, z, rfl, _⟩ := h
    rfl
  · obtain ⟨a, z, rfl, ha, hz, q⟩ := h
    refine ⟨a, _, _, _, rfl, ha, pa_cons (pe_joined (PJ.cons (pe_fmt (pv 1)) (PJ.cons pe_str PJ.nil))) pa_nil, pss_one (ps_ost (pv 0) (pv 1)), ?_⟩
    refine ⟨_, rfl, .inl ⟨_, rfl, szle (by omega), _, rfl, ?_, _, rfl, ?_, ?_⟩⟩
    · rw [← S_of z, show Str.empty = S [] from rfl, S_app, S_len]
      have : z.cps.toList.length = z.length := by rw [← S_len, S_of]
      exact szle (by rw [List.nil_append]; omega)
    · rw [← S_of z, show Str.empty = S [] from rfl, S_app, show (Str.ofString " is out of range") = S (Str.ofString " is out of range").cps.toList from (S_of _).symm, S_app, S_len, List.length_append, List.nil_append]
      have : z.cps.toList.length = z.length := by rw [← S_len, S_of]
      have e : (Str.ofString " is out of range").cps.toList.length = 16 := by decide +kernel
      exact szle (by omega)
    refine ⟨(by show 1 ≤ 1000; decide), ha, ?_⟩
    exact ⟨_, rfl, _, rfl, a, D, rfl, T.cls, noName, .inl ⟨ha, q⟩⟩
end
end K5

set_option maxRecDepth 100000
set_option maxHeartbeats 4000000
/-! disks: what lies where -/
namespace K5
open PySem hiding Tok code
open PySem.Spec PyProof.Rows GD K1 GS
open L2 hiding rest
abbrev cDisk : Stmt := topS 14
abbrev mDInit : Stmt := inClass cDisk 0
abbrev mSize : Stmt := inClass cDisk 1
abbrev mRead : Stmt := inClass cDisk 2
abbrev mWrite : Stmt := inClass cDisk 3
abbrev mFlush : Stmt := inClass cDisk 4
abbrev mPend : Stmt := inClass cDisk 5
abbrev mCuts : Stmt := inClass cDisk 6
abbrev mCut : Stmt := inClass cDisk 7
abbrev mSched : Stmt := inClass cDisk 8
abbrev mIndex : Stmt := inClass cDisk 9
abbrev mCount : Stmt := inClass cDisk 10
abbrev sTornC : Stmt := topS 15
def iv (l : List Int) : List V := l.map V.int
theorem iv_app (a b : List Int) : iv a ++ iv b = iv (a ++ b) := (List.map_append).symm
theorem iv_len (l : List Int) : (iv l).length = l.length := List.length_map _
theorem iv_snoc (l : List Int) (x : Int) : iv l ++ [V.int x] = iv (l ++ [x]) := by
  unfold iv
  rw [List.map_append]
  rfl
theorem iv_get {l : List Int} {i : Nat} {x : Int} (h : l[i]? = some x) : (iv l)[i]? = some (.int x) := by
  unfold iv
  rw [List.getElem?_map, h]
  rfl
theorem rep_flat (n : Nat) (x : V) : (List.replicate n [x]).flatten = List.replicate n x := by
  induction n with
  | zero => rfl
  | succ n ih => rw [List.replicate_succ, List.replicate_succ, List.flatten_cons, ih]; rfl
theorem rep_iv (n : Nat) (x : Int) : List.replicate n (V.int x) = iv (List.replicate n x) := by
  unfold iv
  rw [List.map_replicate]
theorem iteE {c : Bool} {A B : Prop} (h : c = false) (x : B) : if c = true then A else B := by
  rw [h]
  exact iteF x
theorem iteY {c : Bool} {A B : Prop} (h : c = true) (x : A) : if c = true then A else B := by
  rw [h]
  exact iteT x
/-- a disk: its blocks, the writes that wait, how often it was cut, what is scheduled -/
structure DS where
  st : List (List Int)
  wa : List (Nat × List Int)
  cuts : Nat
  sc : Option (Nat × List Int)
def dF (S W : Addr) (cuts : Nat) (v : V) : List (Str × V) := [("stored", .ref S), ("waiting", .ref W), ("cuts", .int cuts), ("scheduled", v)]
def BkR (Z : Addr → Prop) (H : Hp) : V → List Int → Prop := fun v b => ∃ q, v = .ref q ∧ Z q ∧ H q = some (.lst (iv b)) ∧ b.length = 32
def WtR (Z : Addr → Prop) (H : Hp) : V → Nat × List Int → Prop := fun v e => ∃ t q, v = .ref t ∧ Z t ∧ H t = some (.tup [.int (e.1 : Nat), .ref q]) ∧ Z q ∧ H q = some (.lst (iv e.2)) ∧ e.2.length = 32
def ScR (Z : Addr → Prop) (H : Hp) (S W : Addr) : V → Option (Nat × List Int) → Prop
  | v, none => v = .non
  | v, some (m, t) => ∃ t1 t2, v = .ref t1 ∧ Z t1 ∧ H t1 = some (.tup [.int (m : Nat), .ref t2]) ∧ Z t2 ∧ t2 ≠ S ∧ t2 ≠ W ∧ H t2 = some (.lst (iv t)) ∧ ∀ x ∈ t, 0 ≤ x ∧ x ≤ 32
structure DA (C : Addr) (Z : Addr → Prop) (H : Hp) (p : Addr) (s : DS) : Prop where
  ex : ∃ dx S W v vs us, H p = some (.ins C dx (dF S W s.cuts v)) ∧ H dx = some (.own p) ∧ H S = some (.lst vs) ∧ Paired (BkR Z H) vs s.st ∧ H W = some (.lst us) ∧ Paired (WtR Z H) us s.wa ∧ ScR Z H S W v s.sc ∧ Z p ∧ Z dx ∧ Z S ∧ Z W ∧ S ≠ W
  lo : 8 ≤ s.st.length
  hi : s.st.length ≤ 400
  pl : ∀ e ∈ s.wa, e.1 < s.st.length
  al : ∀ q, Z q → H q ≠ none
/-- what a method leaves of what is not the disk's -/
def Kz (Z : Addr → Prop) (H H' : Hp) : Prop := ∀ q o, ¬ Z q → H q = some o → H' q = some o
/-- what is the disk's behind it -/
def grow (Z : Addr → Prop) (H H' : Hp) : Addr → Prop := fun q => (Z q ∨ H q = none) ∧ H' q ≠ none
theorem pair_imp {α β : Type} {R R' : α → β → Prop} {l : List α} {m : List β} (h : Paired R l m) (k : ∀ a b, R a b → R' a b) : Paired R' l m := by
  induction h with
  | nil => exact .nil
  | cons a _ ih => exact .cons (k _ _ a) ih
theorem pair_len {α β : Type} {R : α → β → Prop} {l : List α} {m : List β} (h : Paired R l m) : l.length = m.length := by
  induction h with
  | nil => rfl
  | cons _ _ ih => rw [List.length_cons, List.length_cons, ih]
theorem pair_snoc {α β : Type} {R : α → β → Prop} {l : List α} {m : List β} {a : α} {b : β} (h : Paired R l m) (k : R a b) : Paired R (l ++ [a]) (m ++ [b]) := by
  induction h with
  | nil => exact .cons k .nil
  | cons a _ ih => exact .cons a ih
theorem pair_get {α β : Type} {R : α → β → Prop} {l : List α} {m : List β} (h : Paired R l m) {i : Nat} {b : β} (e : m[i]? = some b) : ∃ a, l[i]? = some a ∧ R a b := by
  induction h generalizing i with
  | nil => simp at e
  | cons a _ ih =>
    cases i with
    | zero =>
      rw [List.getElem?_cons_zero] at e ⊢
      cases e
      exact ⟨_, rfl, a⟩
    | succ i =>
      rw [List.getElem?_cons_succ] at e ⊢
      exact ih e
theorem pair_set {α β : Type} {R : α → β → Prop} {l : List α} {m : List β} {a : α} {b : β} (h : Paired R l m) (i : Nat) (k : R a b) : Paired R (l.set i a) (m.set i b) := by
  induction h generalizing i with
  | nil => exact .nil
  | cons c r ih =>
    cases i with
    | zero => exact .cons k r
    | succ i => exact .cons c (ih i)
theorem pair_get1 {α β : Type} {R : α → β → Prop} {l : List α} {m : List β} (h : Paired R l m) {i : Nat} {a : α} (e : l[i]? = some a) : ∃ b, m[i]? = some b ∧ R a b := by
  induction h generalizing i with
  | nil => simp at e
  | cons a _ ih =>
    cases i with
    | zero =>
      rw [List.getElem?_cons_zero] at e ⊢
      cases e
      exact ⟨_, rfl, a⟩
    | succ i =>
      rw [List.getElem?_cons_succ] at e ⊢
      exact ih e
/-- the blocks stay where their places do -/
theorem BkR.up {Z Z' : Addr → Prop} {H H' : Hp} (k : ∀ q b, Z q → b.length = 32 → H q = some (.lst (iv b)) → Z' q ∧ H' q = some (.lst (iv b))) {v : V} {b : List Int} (h : BkR Z H v b) : BkR Z' H' v b := by
  obtain ⟨q, e, z, h, l⟩ := h
  obtain ⟨z', h'⟩ := k q b z l h
  exact ⟨q, e, z', h', l⟩
theorem WtR.up {Z Z' : Addr → Prop} {H H' : Hp} (k : ∀ q b, Z q → b.length = 32 → H q = some (.lst (iv b)) → Z' q ∧ H' q = some (.lst (iv b))) (kt : ∀ q xs, Z q → H q = some (.tup xs) → Z' q ∧ H' q = some (.tup xs)) {v : V} {e : Nat × List Int} (h : WtR Z H v e) : WtR Z' H' v e := by
  obtain ⟨t, q, e1, z1, h1, z2, h2, l⟩ := h
  obtain ⟨y1, g1⟩ := kt t _ z1 h1
  obtain ⟨y2, g2⟩ := k q _ z2 l h2
  exact ⟨t, q, e1, y1, g1, y2, g2, l⟩
/-- a disk where nothing of it has changed -/
theorem DA.same {C : Addr} {Z : Addr → Prop} {H H' : Hp} {p : Addr} {s : DS} (h : DA C Z H p s) (k : ∀ q o, Z q → H q = some o → H' q = some o) : DA C Z H' p s := by
  obtain ⟨dx, S, W, v, vs, us, h1, h2, h3, h4, h5, h6, h7, z1, z2, z3, z4, n⟩ := h.ex
  refine ⟨⟨dx, S, W, v, vs, us, k _ _ z1 h1, k _ _ z2 h2, k _ _ z3 h3, pair_imp h4 fun a b => BkR.up fun q b z _ e => ⟨z, k _ _ z e⟩, k _ _ z4 h5, pair_imp h6 fun a b => WtR.up (fun q b z _ e => ⟨z, k _ _ z e⟩) (fun q xs z e => ⟨z, k _ _ z e⟩), ?_, z1, z2, z3, z4, n⟩, h.lo, h.hi, h.pl, fun q z e => ?_⟩
  · revert h7
    cases s.sc with
    | none => exact fun z => z
    | some x =>
      obtain ⟨m, t⟩ := x
      exact fun ⟨t1, t2, e, y1, g1, y2, n1, n2, g2, b⟩ => ⟨t1, t2, e, y1, k _ _ y1 g1, y2, n1, n2, k _ _ y2 g2, b⟩
  · cases e1 : H q with
    | none => exact h.al q z e1
    | some o => rw [k q o z e1] at e; cases e
theorem DA.sm {C : Addr} {Z : Addr → Prop} {H H' : Hp} {p : Addr} {s : DS} (h : DA C Z H p s) (k : Same H H') : DA C Z H' p s := h.same fun q o _ e => k q o e
theorem iv_refs {b : List Int} {us : List V} (hb : b.length = 32) (hu : ∀ u ∈ us, ∃ r, u = V.ref r) : iv b ≠ us := fun e => by
  match b, hb with
  | x :: r, _ =>
    obtain ⟨r', e'⟩ := hu (.int x) (by rw [← e]; exact List.mem_cons_self)
    cases e'
theorem bk_refs {Z : Addr → Prop} {H : Hp} {vs : List V} {bs : List (List Int)} (h : Paired (BkR Z H) vs bs) : ∀ u ∈ vs, ∃ r, u = V.ref r := by
  induction h with
  | nil => intro u hu; cases hu
  | cons a _ ih =>
    intro u hu
    rcases List.mem_cons.mp hu with rfl | hu
    · obtain ⟨q, e, _⟩ := a
      exact ⟨q, e⟩
    · exact ih u hu
theorem wt_refs {Z : Addr → Prop} {H : Hp} {vs : List V} {bs : List (Nat × List Int)} (h : Paired (WtR Z H) vs bs) : ∀ u ∈ vs, ∃ r, u = V.ref r := by
  induction h with
  | nil => intro u hu; cases hu
  | cons a _ ih =>
    intro u hu
    rcases List.mem_cons.mp hu with rfl | hu
    · obtain ⟨q, _, e, _⟩ := a
      exact ⟨q, e⟩
    · exact ih u hu
/-- a block lies elsewhere than a list of places -/
theorem blk_ne {H : Hp} {q S : Addr} {b : List Int} {us : List V} (h : H q = some (.lst (iv b))) (hb : b.length = 32) (hS : H S = some (.lst us)) (hu : ∀ u ∈ us, ∃ r, u = V.ref r) : q ≠ S := fun z => by
  rw [z, hS] at h
  injection h with h
  injection h with h
  exact iv_refs hb hu h.symm
/-- what the top has written of Disk -/
structure TxD (K : PySem.W.Frag) (mg : Str → Option Value) (C : Addr) : Prop where
  cl : Cls K C
  n1 : NoAttr K C "stored"
  n2 : NoAttr K C "waiting"
  n3 : NoAttr K C "cuts"
  n4 : NoAttr K C "scheduled"
  g : mg "Disk" = some (.ref C)
  BLOCK : ∃ t, mg "BLOCK" = some (.int 32 t)
  LEAST : ∃ t, mg "BLOCKS_LEAST" = some (.int 8 t)
  MOST : ∃ t, mg "BLOCKS_MOST" = some (.int 400 t)
  BYTE : ∃ t, mg "BYTE_MOST" = some (.int 255 t)
/-- more of what the top leaves to the built-ins -/
structure Txt3 (mg : Str → Option Value) : Prop where
  all : mg "all" = none
  enumerate : mg "enumerate" = none
theorem dF_S {S W : Addr} {n : Nat} {v : V} : (dF S W n v).lookup ("stored" : Str) = some (.ref S) := rfl
theorem dF_W {S W : Addr} {n : Nat} {v : V} : (dF S W n v).lookup ("waiting" : Str) = some (.ref W) := by
  unfold dF
  simp [List.lookup, show (("waiting" : Str) == "stored") = false by decide +kernel]
theorem dF_c {S W : Addr} {n : Nat} {v : V} : (dF S W n v).lookup ("cuts" : Str) = some (.int n) := by
  unfold dF
  simp [List.lookup, show (("cuts" : Str) == "stored") = false by decide +kernel, show (("cuts" : Str) == "waiting") = false by decide +kernel]
theorem dF_s {S W : Addr} {n : Nat} {v : V} : (dF S W n v).lookup ("scheduled" : Str) = some v := by
  unfold dF
  simp [List.lookup, show (("scheduled" : Str) == "stored") = false by decide +kernel, show (("scheduled" : Str) == "waiting") = false by decide +kernel, show (("scheduled" : Str) == "cuts") = false by decide +kernel]
theorem dF_no {S W : Addr} {n : Nat} {v : V} {f : Str} (h : ([("stored" : Str), "waiting", "cuts", "scheduled"] : List Str).all (fun g : Str => !(f == g)) = true) : (dF S W n v).lookup f = none := by
  unfold dF
  simp only [List.all_cons, List.all_nil, Bool.and_true, Bool.and_eq_true, Bool.not_eq_true'] at h
  obtain ⟨a, b, c, d⟩ := h
  simp [List.lookup, a, b, c, d]
theorem putF_W {S W W' : Addr} {n : Nat} {v : V} : putF "waiting" (.ref W') (dF S W n v) = dF S W' n v := by
  unfold dF
  simp [putF, show ¬ (("stored" : Str) = "waiting") by decide +kernel]
theorem putF_c {S W : Addr} {n m : Nat} {v : V} : putF "cuts" (.int m) (dF S W n v) = dF S W m v := by
  unfold dF
  simp [putF, show ¬ (("stored" : Str) = "cuts") by decide +kernel, show ¬ (("waiting" : Str) = "cuts") by decide +kernel]
theorem putF_s {S W : Addr} {n : Nat} {v v' : V} : putF "scheduled" v' (dF S W n v) = dF S W n v' := by
  unfold dF
  simp [putF, show ¬ (("stored" : Str) = "scheduled") by decide +kernel, show ¬ (("waiting" : Str) = "scheduled") by decide +kernel, show ¬ (("cuts" : Str) = "scheduled") by decide +kernel]
end K5

set_option maxRecDepth 100000
set_option maxHeartbeats 4000000
/-! check_torn, check_index, the readings -/
namespace K5
open PySem hiding Tok code
open PySem.Spec PyProof.Rows GD K1 GS
open L2 hiding rest
section
variable {P : Program} {w : World} {K : PySem.W.Frag} {mg : Str → Option Value} {base : Heap} {D fI C : Addr}
theorem passE {N : List Str} {q : Str} {sc : Scope} {f : Addr} {cdv : Value} {A : Around} {outer : List Env} {s : Shared} {H : Hp} {E : XK} :
    Passes (L2.CX P w) (cxOf (L2.CX P w) P w K mg base N q sc f cdv A outer s H E) E := fun pins σ H' s1 e s2 I c =>
  passAt (X := cxOf (L2.CX P w) P w K mg base N q sc f cdv A outer s H E) (W := fun cls d _ H => E cls d H) (takes_of rfl rfl rfl rfl) σ pins H' s1 e s2 I c
theorem oor_k {E : XK} {H H1 : Hp} {z : Str} (s : Same H H1) (hz : z.length ≤ 100) (h : OErr E D H z) :
    ([V.str z]).length ≤ 1000 ∧ ∀ a, H1 a = none → spOInit D (.ref a :: ([V.str z] ++ [])) (upd H1 a (exo a D none))
      (fun v H2 => v = .non ∧ ∃ (d : Addr) (fs : List (Str × V)), H2 a = some (exo a D (some d)) ∧ H2 d = some (exd d fs) ∧ H1 d = none ∧ E (.ref D) (some d) (upd (del H2 a) d (.xd fs))) (fun _ _ _ => False) := by
  refine ⟨by show 1 ≤ 1000; decide, fun a na => ⟨a, z, rfl, upd_same, hz, fun dx ndx nea => ⟨rfl, dx, [(Str.ofString "name", V.str z)], upd_same, ?_, ?_, ?_⟩⟩⟩
  · rw [upd_ne nea, upd_same]
  · rw [upd_ne nea] at ndx
    exact ndx
  · rw [upd_ne nea] at ndx
    refine h dx _ (fun q o e => ?_) (sfree s ndx) upd_same
    have e1 := s q o e
    have n1 : q ≠ dx := fun z => by rw [z, ndx] at e1; cases e1
    have n2 : q ≠ a := fun z => by rw [z, na] at e1; cases e1
    rw [upd_ne n1]
    unfold del
    rw [if_neg n2, upd_ne n2, upd_ne n1, upd_ne n2]
    exact e1
def okc (x : Int) : Bool := decide (0 ≤ x) && decide (x ≤ 32)
def okT (tn : List Int) : Bool := tn.all okc
def spTornC (D : Addr) : L2.Sp := fun vs H Q E => ∃ (t : Addr) (tn : List Int), vs = [.ref t] ∧ H t = some (.lst (iv tn)) ∧ tn.length ≤ 1000 ∧ (okT tn = true → ∀ H', Same H H' → Q .non H') ∧ (okT tn = false → OErr E D H "torn")
theorem scTornC : FnScope ["torn", "many"] ["torn"] (defScope sTornC) := ⟨rfl, rfl, rfl, by decide +kernel, rfl, by decide +kernel, by decide +kernel⟩
theorem ok_tornC {f : Addr} {fd fdI : FuncData} (F : Fun K "check_torn" "check_torn" sTornC f fd) (T : Txt K mg) (TD : TxD K mg C) (T3 : Txt3 mg) (TO : TxO K mg D fI)
    (bI : Binds K fdI ["self", "name"] []) (FI : FnOk P w K mg base CX0 1 fI fdI ["self", "name"] (spOInit D)) : FnOk P w K mg base (L2.CX P w) 3 f fd ["torn"] (spTornC D) := by
  have sc := scTornC
  obtain ⟨t1, gBLOCK⟩ := TD.BLOCK
  refine F.okX sc (fun vs H Q E h => ?_) (fun cdv A outer s H vs Q E hr h => ?_)
  · obtain ⟨t, tn, rfl, _⟩ := h
    rfl
  · obtain ⟨t, tn, rfl, ht, hl, q1, q2⟩ := h
    have hr1 := hr
    refine ⟨_, (pss_one (ps_if (pt_not (pt_val (pe_callB (cr_all rfl) (by rfl) T3.all (by decide +kernel) (pa_cons (pe_lc (own := [("many", 1)]) rfl sc.nd (pi_list (pv 0)) (blkOk_by (own := [("many", 1)]) (N := ["torn", "many"]) (sc := defScope sTornC) (by decide +kernel)) (fun _ _ _ _ _ => (pg_name (i := 1) sc.nd rfl (Or.inl rfl))) (fun _ _ _ _ _ => pts_nil) (fun _ _ _ _ _ => (pe_chain op_le op_le pe_int (pv 1) (pe_gint rfl gBLOCK)))) pa_nil))))
      (pss_one (ps_raise rfl (takes_of rfl rfl rfl rfl) (pmk_oex TO.oc TO.ini TO.tyI FI hr1 bI .nil pass0 rfl TO.g (pa_cons pe_str pa_nil))))
      pss_nil)), ?_⟩
    refine ⟨_, rfl, t, rfl, ⟨_, SqL.of ht⟩, fun l nl => ?_⟩
    refine lc_it (walk_list (K := K) (a := t) (xs := iv tn)) (fun j H' => Same H H' ∧ H' l = some (.lst (((tn.take j).map okc).map V.bl))) ⟨Same.lst (Same.refl _) nl, upd_same⟩ (fun i H' _ pv => SqL.of (pv.1 _ _ ht)) (fun j x H2 H3 hj pv y => ?_) (fun H2 pv => ?_)
    · obtain ⟨rfl, hx⟩ := y
      unfold iv at hx
      rw [List.getElem?_map, Option.map_eq_some_iff] at hx
      obtain ⟨i, hi, rfl⟩ := hx
      refine ⟨rfl, ?_⟩
      have fin : ∀ b, okc i = b → ∃ acc : List V, H3 l = some (.lst acc) ∧ acc.length < sizeLine ∧ Same H (upd H3 l (.lst (acc ++ [V.bl b]))) ∧ (upd H3 l (.lst (acc ++ [V.bl b]))) l = some (.lst (((tn.take (j + 1)).map okc).map V.bl)) := fun b e => by
        refine ⟨_, pv.2, ?_, Same.lst pv.1 nl, ?_⟩
        · rw [List.length_map, List.length_map, List.length_take]
          exact szlt (by omega)
        · rw [upd_same, List.take_add_one, hi, ← e, List.map_append, List.map_append]
          rfl
      refine ⟨_, rfl, _, _, rfl, rfl, _, rfl, ?_⟩
      cases h0 : decide ((0 : Int) ≤ i) with
      | false => exact iteF (fin _ (by unfold okc; rw [h0]; rfl))
      | true => exact iteT ⟨_, _, rfl, rfl, (fin _ (by unfold okc; rw [h0]; rfl))⟩
    have lv : (iv tn).length = tn.length := List.length_map _
    rw [lv, List.take_length] at pv
    obtain ⟨s2, el⟩ := pv
    refine ⟨l, tn.map okc, rfl, SqL.of el, _, rfl, ?_⟩
    have ea : (tn.map okc).all id = okT tn := by
      rw [List.all_map]
      rfl
    rw [ea]
    cases ho : okT tn with
    | true => exact iteF (q1 ho _ s2)
    | false => exact iteT (oor_k s2 (by decide +kernel) (q2 ho))
def spIndex (C D : Addr) : L2.Sp := fun vs H Q E => ∃ (Z : Addr → Prop) (p : Addr) (s : DS) (i : Int), vs = [.ref p, .int i] ∧ DA C Z H p s ∧ (0 ≤ i → i < s.st.length → Q .non H) ∧ (i < 0 ∨ (s.st.length : Int) ≤ i → OErr E D H "at")
theorem scIndex : FnScope ["self", "at"] ["self", "at"] (defScope mIndex) := ⟨rfl, rfl, rfl, by decide +kernel, rfl, by decide +kernel, by decide +kernel⟩
theorem ok_index {f : Addr} {fd fdI : FuncData} (F : Fun K "check_index" "Disk.check_index" mIndex f fd) (T : Txt K mg) (TD : TxD K mg C) (TO : TxO K mg D fI)
    (bI : Binds K fdI ["self", "name"] []) (FI : FnOk P w K mg base CX0 1 fI fdI ["self", "name"] (spOInit D)) : FnOk P w K mg base (L2.CX P w) 3 f fd ["self", "at"] (spIndex C D) := by
  have sc := scIndex
  refine F.okX sc (fun vs H Q E h => ?_) (fun cdv A outer s H vs Q E hr h => ?_)
  · obtain ⟨Z, p, ds, i, rfl, _⟩ := h
    rfl
  · obtain ⟨Z, p, ds, i, rfl, da, q1, q2⟩ := h
    obtain ⟨dx, S, W, v, vs, us, h1, h2, h3, h4, h5, h6, h7, z1, z2, z3, z4, n⟩ := da.ex
    have hr1 := hr
    refine ⟨_, (pss_one (ps_if (pt_not (pt_chain op_le op_lt pe_int (pv 1) (pe_callB call_len_seq (by rfl) T.len (by decide +kernel) (pa_cons (pe_fld (pv 0) rfl) pa_nil))))
      (pss_one (ps_raise rfl (takes_of rfl rfl rfl rfl) (pmk_oex TO.oc TO.ini TO.tyI FI hr1 bI .nil pass0 rfl TO.g (pa_cons pe_str pa_nil))))
      pss_nil)), ?_⟩
    refine ⟨_, rfl, _, _, rfl, rfl, _, rfl, ?_⟩
    cases e0 : decide ((0 : Int) ≤ i) with
    | false => exact iteF ⟨_, rfl, iteT (oor_k (Same.refl H) (by decide +kernel) (q2 (.inl (by have := of_decide_eq_false e0; omega))))⟩
    | true =>
      refine iteT ⟨_, rfl, p, C, dx, _, _, rfl, h1, TD.cl, TD.n1, dF_S, S, _, rfl, .inl (SqL.of h3), _, _, rfl, rfl, _, rfl, ?_⟩
      rw [pair_len h4]
      cases e1 : decide (i < (ds.st.length : Int)) with
      | false => exact iteT (oor_k (Same.refl H) (by decide +kernel) (q2 (.inr (by have := of_decide_eq_false e1; omega))))
      | true => exact iteF (q1 (of_decide_eq_true e0) (of_decide_eq_true e1))
def spSize (C : Addr) : L2.Sp := fun vs H Q _ => ∃ (Z : Addr → Prop) (p : Addr) (s : DS), vs = [.ref p] ∧ DA C Z H p s ∧ Q (.int (s.st.length : Nat)) H
theorem scSize : FnScope ["self"] ["self"] (defScope mSize) := ⟨rfl, rfl, rfl, by decide +kernel, rfl, by decide +kernel, by decide +kernel⟩
theorem ok_size {f : Addr} {fd : FuncData} (F : Fun K "size" "Disk.size" mSize f fd) (T : Txt K mg) (TD : TxD K mg C) : FnOk P w K mg base CX0 1 f fd ["self"] (spSize C) := by
  have sc := scSize
  refine F.ok sc (fun vs H Q E h => ?_) (fun cdv A outer s H vs Q E hr h => ?_)
  · obtain ⟨Z, p, ds, rfl, _⟩ := h
    rfl
  · obtain ⟨Z, p, ds, rfl, da, q⟩ := h
    obtain ⟨dx, S, W, v, vs, us, h1, h2, h3, h4, h5, h6, h7, z1, z2, z3, z4, n⟩ := da.ex
    refine ⟨_, (pss_one (ps_ret (pe_callB call_len_seq (by rfl) T.len (by decide +kernel) (pa_cons (pe_fld (pv 0) rfl) pa_nil)))), ?_⟩
    refine ⟨_, rfl, p, C, dx, _, _, rfl, h1, TD.cl, TD.n1, dF_S, S, _, rfl, .inl (SqL.of h3), ?_⟩
    rw [pair_len h4]
    exact q
def spPend (C : Addr) : L2.Sp := fun vs H Q _ => ∃ (Z : Addr → Prop) (p : Addr) (s : DS), vs = [.ref p] ∧ DA C Z H p s ∧ Q (.int (s.wa.length : Nat)) H
theorem scPend : FnScope ["self"] ["self"] (defScope mPend) := ⟨rfl, rfl, rfl, by decide +kernel, rfl, by decide +kernel, by decide +kernel⟩
theorem ok_pend {f : Addr} {fd : FuncData} (F : Fun K "pending_count" "Disk.pending_count" mPend f fd) (T : Txt K mg) (TD : TxD K mg C) : FnOk P w K mg base CX0 1 f fd ["self"] (spPend C) := by
  have sc := scPend
  refine F.ok sc (fun vs H Q E h => ?_) (fun cdv A outer s H vs Q E hr h => ?_)
  · obtain ⟨Z, p, ds, rfl, _⟩ := h
    rfl
  · obtain ⟨Z, p, ds, rfl, da, q⟩ := h
    obtain ⟨dx, S, W, v, vs, us, h1, h2, h3, h4, h5, h6, h7, z1, z2, z3, z4, n⟩ := da.ex
    refine ⟨_, (pss_one (ps_ret (pe_callB call_len_seq (by rfl) T.len (by decide +kernel) (pa_cons (pe_fld (pv 0) rfl) pa_nil)))), ?_⟩
    refine ⟨_, rfl, p, C, dx, _, _, rfl, h1, TD.cl, TD.n2, dF_W, W, _, rfl, .inl (SqL.of h5), ?_⟩
    rw [pair_len h6]
    exact q
def spCuts (C : Addr) : L2.Sp := fun vs H Q _ => ∃ (Z : Addr → Prop) (p : Addr) (s : DS), vs = [.ref p] ∧ DA C Z H p s ∧ Q (.int (s.cuts : Nat)) H
theorem scCuts : FnScope ["self"] ["self"] (defScope mCuts) := ⟨rfl, rfl, rfl, by decide +kernel, rfl, by decide +kernel, by decide +kernel⟩
theorem ok_cuts {f : Addr} {fd : FuncData} (F : Fun K "cut_count" "Disk.cut_count" mCuts f fd) (T : Txt K mg) (TD : TxD K mg C) : FnOk P w K mg base CX0 1 f fd ["self"] (spCuts C) := by
  have sc := scCuts
  refine F.ok sc (fun vs H Q E h => ?_) (fun cdv A outer s H vs Q E hr h => ?_)
  · obtain ⟨Z, p, ds, rfl, _⟩ := h
    rfl
  · obtain ⟨Z, p, ds, rfl, da, q⟩ := h
    obtain ⟨dx, S, W, v, vs, us, h1, h2, h3, h4, h5, h6, h7, z1, z2, z3, z4, n⟩ := da.ex
    refine ⟨_, (pss_one (ps_ret (pe_fld (pv 0) rfl))), ?_⟩
    exact ⟨_, rfl, p, C, dx, _, _, rfl, h1, TD.cl, TD.n3, dF_c, q⟩
def rdM (s : DS) (n : Nat) : List Int := s.wa.foldl (fun f e => if e.1 = n then e.2 else f) (s.st.getD n [])
def spRead (C D : Addr) : L2.Sp := fun vs H Q E => ∃ (Z : Addr → Prop) (p : Addr) (s : DS) (i : Int), vs = [.ref p, .int i] ∧ DA C Z H p s ∧
  (∀ n : Nat, i = n → n < s.st.length → ∀ H' q, Same H H' → H q = none → H' q = some (.lst (iv (rdM s n))) → Q (.ref q) H') ∧ (i < 0 ∨ (s.st.length : Int) ≤ i → OErr E D H "at")
theorem scRead : FnScope ["self", "at", "block", "place", "written"] ["self", "at"] (defScope mRead) := ⟨rfl, rfl, rfl, by decide +kernel, rfl, by decide +kernel, by decide +kernel⟩
theorem ok_read {f f1 : Addr} {fd fd1 : FuncData} (F : Fun K "read" "Disk.read" mRead f fd) (T : Txt K mg) (TD : TxD K mg C)
    (MI : MO P w K mg base (L2.CX P w) 3 C "check_index" ["self", "at"] (spIndex C D) f1 fd1) : FnOk P w K mg base (L2.CX P w) 4 f fd ["self", "at"] (spRead C D) := by
  have sc := scRead
  refine F.okX sc (fun vs H Q E h => ?_) (fun cdv A outer s H vs Q E hr h => ?_)
  · obtain ⟨Z, p, ds, i, rfl, _⟩ := h
    rfl
  · obtain ⟨Z, p, ds, i, rfl, da, q1, q2⟩ := h
    obtain ⟨dx, S, W, v, vs, us, h1, h2, h3, h4, h5, h6, h7, z1, z2, z3, z4, n⟩ := da.ex
    refine ⟨_, (pss_cons (ps_expr (pe_meth (pv 0) TD.cl MI.mt MI.ok hr MI.bi .nil passE (pa_cons (pv 1) pa_nil)))
      (pss_cons (ps_set (i := 2) sc.nd rfl (Or.inl rfl) (pe_ix ix_list (pe_fld (pv 0) rfl) (pv 1) (fun _ _ => rfl)))
      (pss_cons (ps_for (passes_of rfl) rfl (pi_list (pe_fld (pv 0) rfl)) (pg_tup rfl (pgs_cons (pg_name (i := 3) sc.nd rfl (Or.inl rfl)) (pgs_cons (pg_name (i := 4) sc.nd rfl (Or.inl rfl)) pgs_nil)))
      (pss_one (ps_if (pt_cmpR op_eq (pv 3) (pv 1) (nomark _))
      (pss_one (ps_set (i := 2) sc.nd rfl (Or.inl rfl) (pv 4)))
      pss_nil)))
      (pss_one (ps_ret (pe_callTy call_list_of (by rfl) T.blist (by decide +kernel) (pa_cons (pv 2) pa_nil))))))), ?_⟩
    refine ⟨_, rfl, p, dx, _, rfl, h1, dF_no (by decide +kernel), _, rfl, Z, p, ds, i, rfl, da, fun l0 l1 => ?_, q2⟩
    obtain ⟨m, rfl⟩ : ∃ m : Nat, i = m := ⟨i.toNat, by omega⟩
    have lm : m < ds.st.length := by omega
    obtain ⟨b0, hb0⟩ : ∃ b0, ds.st[m]? = some b0 := ⟨_, List.getElem?_eq_getElem lm⟩
    obtain ⟨x0, hx0, r0, rfl, zr0, hr0, lr0⟩ := pair_get h4 hb0
    refine ⟨_, rfl, p, C, dx, _, _, rfl, h1, TD.cl, TD.n1, dF_S, _, rfl, S, vs, m, V.ref r0, rfl, rfl, SqL.of h3, by rw [atI_nat]; exact hx0, ?_⟩
    refine ⟨_, rfl, p, C, dx, _, _, rfl, h1, TD.cl, TD.n2, dF_W, W, rfl, ⟨_, SqL.of h5⟩, for_list (K := K) (a := W) (xs := us) (fun j σ H' => ∃ (b : List Int) (r : Addr) (y3 y4 : Option V), σ = [some (.ref p), some (.int m), some (.ref r), y3, y4] ∧ H' = H ∧ H r = some (.lst (iv b)) ∧ b = (ds.wa.take j).foldl (fun f e => if e.1 = m then e.2 else f) (ds.st.getD m []))
      ⟨b0, r0, _, _, rfl, rfl, hr0, by rw [List.take_zero, List.foldl_nil, List.getD_eq_getElem?_getD, hb0]; rfl⟩ (fun j σ H' _ ⟨_, _, _, _, _, e, _⟩ => by rw [e]; exact SqL.of h5) ?_ ?_⟩
    · rintro j y σ H' hj ⟨b, r, y3, y4, rfl, rfl, hr', eb⟩
      obtain ⟨e, he, t, q, rfl, _, ht, zq, hq, lq⟩ := pair_get1 h6 hj
      refine ⟨t, _, rfl, SqT.of ht, rfl, _, _, rfl, _, _, rfl, rfl, ?_⟩
      have ef : (ds.wa.take (j + 1)).foldl (fun f e => if e.1 = m then e.2 else f) (ds.st.getD m []) = if e.1 = m then e.2 else b := by
        rw [List.take_add_one, he, List.foldl_append, ← eb]
        rfl
      refine ⟨_, rfl, _, rfl, rfl, _, rfl, ?_⟩
      by_cases em : e.1 = m
      · refine iteY (decide_eq_true (by rw [em])) ⟨_, rfl, e.2, q, _, _, rfl, rfl, hq, ?_⟩
        rw [ef, if_pos em]
      · refine iteE (decide_eq_false fun z => em (by injection z with z; exact Int.ofNat.inj z)) ⟨b, r, _, _, rfl, rfl, hr', ?_⟩
        rw [ef, if_neg em]
    · rintro σ H' ⟨b, r, y3, y4, rfl, rfl, hr', eb⟩
      refine ⟨_, rfl, r, _, rfl, .inl (SqL.of hr'), fun l nl => ?_⟩
      have lu : us.length = ds.wa.length := pair_len h6
      rw [lu, List.take_length] at eb
      refine q1 m rfl lm _ l (Same.lst (Same.refl _) nl) nl ?_
      rw [upd_same, eb]
      rfl
end
end K5

set_option maxRecDepth 100000
set_option maxHeartbeats 4000000
/-! cut_power -/
namespace K5
open PySem hiding Tok code
open PySem.Spec PyProof.Rows GD K1 GS
open L2 hiding rest
theorem grow_grow {Z : Addr → Prop} {H H1 H2 : Hp} (k : Kz Z H H1) {q : Addr} (h : grow (grow Z H H1) H1 H2 q) : grow Z H H2 q := by
  obtain ⟨h, h2⟩ := h
  refine ⟨?_, h2⟩
  rcases h with h | h
  · exact h.1
  · by_cases z : Z q
    · exact .inl z
    · cases e : H q with
      | none => exact .inr rfl
      | some o => rw [k q o z e] at h; cases h
theorem Kz.trans {Z : Addr → Prop} {H H1 H2 : Hp} (a : Kz Z H H1) (b : Kz (grow Z H H1) H1 H2) : Kz Z H H2 := fun q o z e => b q o (fun g => by
  rcases g.1 with h | h
  · exact z h
  · rw [e] at h; cases h) (a q o z e)
theorem Kz.sm {Z : Addr → Prop} {H H1 : Hp} (s : Same H H1) : Kz Z H H1 := fun q o _ e => s q o e
theorem DA.mono {C : Addr} {Z Z' : Addr → Prop} {H : Hp} {p : Addr} {s : DS} (h : DA C Z H p s) (k : ∀ q, Z q → Z' q) (a : ∀ q, Z' q → H q ≠ none) : DA C Z' H p s := by
  obtain ⟨dx, S, W, v, vs, us, h1, h2, h3, h4, h5, h6, h7, z1, z2, z3, z4, n⟩ := h.ex
  refine ⟨⟨dx, S, W, v, vs, us, h1, h2, h3, pair_imp h4 fun a b => BkR.up fun q b z _ e => ⟨k _ z, e⟩, h5, pair_imp h6 fun a b => WtR.up (fun q b z _ e => ⟨k _ z, e⟩) (fun q xs z e => ⟨k _ z, e⟩), ?_, k _ z1, k _ z2, k _ z3, k _ z4, n⟩, h.lo, h.hi, h.pl, a⟩
  revert h7
  cases s.sc with
  | none => exact fun z => z
  | some x =>
    obtain ⟨m, t⟩ := x
    exact fun ⟨t1, t2, e, y1, g1, y2, n1, n2, g2, b⟩ => ⟨t1, t2, e, k _ y1, g1, k _ y2, n1, n2, g2, b⟩
/-- one write, cut -/
def cutE (tn : List Int) (st : List (List Int)) (k : Nat) (e : Nat × List Int) : List (List Int) :=
  st.set e.1 (e.2.take (tn.getD k 0).toNat ++ (st.getD e.1 []).drop (tn.getD k 0).toNat)
def cutL (tn : List Int) : List (Nat × List Int) → Nat → List (List Int) → List (List Int)
  | [], _, st => st
  | e :: r, k, st => cutL tn r (k + 1) (cutE tn st k e)
def cutM (s : DS) (tn : List Int) : DS := ⟨cutL tn s.wa 0 s.st, [], s.cuts + 1, none⟩
theorem cutL_snoc (tn : List Int) (e : Nat × List Int) : ∀ (l : List (Nat × List Int)) (k : Nat) (st : List (List Int)), cutL tn (l ++ [e]) k st = cutE tn (cutL tn l k st) (k + l.length) e
  | [], k, st => rfl
  | x :: l, k, st => by
    show cutL tn (l ++ [e]) (k + 1) (cutE tn st k x) = cutE tn (cutL tn l (k + 1) (cutE tn st k x)) (k + (l.length + 1)) e
    rw [cutL_snoc tn e l (k + 1), show k + 1 + l.length = k + (l.length + 1) by omega]
theorem cutE_len (tn : List Int) (st : List (List Int)) (k : Nat) (e : Nat × List Int) : (cutE tn st k e).length = st.length := List.length_set
theorem cutL_len (tn : List Int) : ∀ (l : List (Nat × List Int)) (k : Nat) (st : List (List Int)), (cutL tn l k st).length = st.length
  | [], _, _ => rfl
  | e :: r, k, st => by
    show (cutL tn r (k + 1) (cutE tn st k e)).length = _
    rw [cutL_len tn r, cutE_len]
theorem okT_get {tn : List Int} (h : okT tn = true) (k : Nat) : 0 ≤ tn.getD k 0 ∧ tn.getD k 0 ≤ 32 := by
  rw [List.getD_eq_getElem?_getD]
  cases e : tn[k]? with
  | none => exact ⟨by decide, by decide⟩
  | some x =>
    have := List.all_eq_true.mp h x (List.mem_of_getElem? e)
    unfold okc at this
    rw [Bool.and_eq_true] at this
    exact ⟨of_decide_eq_true this.1, of_decide_eq_true this.2⟩
theorem ite_same {c : Bool} {A B : Prop} (G : Prop) (g : G) (a : c = true → G → A) (b : c = false → G → B) : if c = true then A else B := by
  cases c with
  | true => exact iteT (a rfl g)
  | false => exact iteF (b rfl g)
theorem cut_n {b : List Int} (n : Nat) : cutV (iv b) none (some (n : Int)) = iv (b.take n) := by
  unfold cutV
  rw [HT.sIx_none, HT.sIx_nat, List.drop_zero, Nat.sub_zero, iv_len]
  unfold iv
  rw [List.map_take, ← List.length_map (f := V.int) (as := b)]
  exact (List.take_eq_take_min).symm
theorem cut_from {b : List Int} {m : Nat} (h : m ≤ b.length) : cutV (iv b) (some (m : Int)) none = iv (b.drop m) := by
  unfold cutV
  rw [HT.sIx_nat, HT.sIx_none, iv_len, Nat.min_eq_left h, List.take_of_length_le (by rw [List.length_drop, iv_len]; omega)]
  unfold iv
  rw [List.map_drop]
theorem ixn {n j : Nat} (h : j < n) : ixN n (j : Int) = some j := by
  unfold ixN
  rw [if_pos (by omega), if_pos (by omega)]
  rfl
/-- all but the one place stays -/
def KS (S : Addr) (H H' : Hp) : Prop := ∀ q o, q ≠ S → H q = some o → H' q = some o
theorem KS.none {S : Addr} {H H' : Hp} (k : KS S H H') (hS : H' S ≠ none) {q : Addr} (h : H' q = none) : H q = none := by
  cases e : H q with
  | none => rfl
  | some o =>
    by_cases z : q = S
    · rw [z] at h; exact absurd h hS
    · rw [k q o z e] at h; cases h
theorem KS.sm {S : Addr} {H H1 H2 : Hp} (k : KS S H H1) (s : Same H1 H2) : KS S H H2 := fun q o z e => s q o (k q o z e)
section
variable {P : Program} {w : World} {K : PySem.W.Frag} {mg : Str → Option Value} {base : Heap} {D C : Addr}
def spCut (C D : Addr) : L2.Sp := fun vs H Q E => ∃ (Z : Addr → Prop) (p : Addr) (s : DS) (t : Addr) (tn : List Int), vs = [.ref p, .ref t] ∧ DA C Z H p s ∧ H t = some (.lst (iv tn)) ∧ tn.length ≤ 1000 ∧ s.wa.length ≤ 1000 ∧
  (okT tn = true → ∀ H', Kz Z H H' → DA C (grow Z H H') H' p (cutM s tn) → Q .non H') ∧ (okT tn = false → OErr E D H "torn")
theorem scCut : FnScope ["self", "torn", "number", "at", "block", "many"] ["self", "torn"] (defScope mCut) := ⟨rfl, rfl, rfl, by decide +kernel, rfl, by decide +kernel, by decide +kernel⟩
theorem ok_cut {f f1 : Addr} {fd fd1 : FuncData} (F : Fun K "cut_power" "Disk.cut_power" mCut f fd) (T : Txt K mg) (T3 : Txt3 mg) (TD : TxD K mg C)
    (FT : FO P w K mg base (L2.CX P w) 3 "check_torn" ["torn"] (spTornC D) f1 fd1) : FnOk P w K mg base (L2.CX P w) 4 f fd ["self", "torn"] (spCut C D) := by
  have sc := scCut
  refine F.okX sc (fun vs H Q E h => ?_) (fun cdv A outer s H vs Q E hr h => ?_)
  · obtain ⟨Z, p, ds, t, tn, rfl, _⟩ := h
    rfl
  · obtain ⟨Z, p, ds, t, tn, rfl, da, ht, hl, hw, q1, q2⟩ := h
    obtain ⟨dx, S, W, v, vs, us, h1, h2, h3, h4, h5, h6, h7, z1, z2, z3, z4, n⟩ := da.ex
    refine ⟨_, (pss_cons (ps_expr (pe_call FT.ok hr (by rfl) FT.m FT.kp FT.b .nil passE (pa_cons (pv 1) pa_nil)))
      (pss_cons (ps_for (passes_of rfl) rfl (pi_enum rfl T3.enumerate (pa_cons (pe_fld (pv 0) rfl) pa_nil)) (pg_tup rfl (pgs_cons (pg_name (i := 2) sc.nd rfl (Or.inl rfl)) (pgs_cons (pg_tup rfl (pgs_cons (pg_name (i := 3) sc.nd rfl (Or.inl rfl)) (pgs_cons (pg_name (i := 4) sc.nd rfl (Or.inl rfl)) pgs_nil))) pgs_nil)))
      (pss_cons (ps_set (i := 5) sc.nd rfl (Or.inl rfl) (pe_ifExp (pt_cmpR op_lt (pv 2) (pe_callB call_len_seq (by rfl) T.len (by decide +kernel) (pa_cons (pv 1) pa_nil)) (nomark _)) (pe_ix ix_list (pv 1) (pv 2) (fun _ _ => rfl)) pe_int))
      (pss_one (ps_asg (pe_op op_cat (pe_slice sl_list (pv 4) po_none (po_some (pv 5))) (pe_slice sl_list (pe_ix ix_list (pe_fld (pv 0) rfl) (pv 3) (fun _ _ => rfl)) (po_some (pv 5)) po_none)) (pg_sub (pe_fld (pv 0) rfl) (pv 3) set_list)))))
      (pss_cons (ps_fld (pv 0) (pe_lst pa_nil) rfl)
      (pss_cons (ps_fldaug (pv 0) pe_int in_add)
      (pss_one (ps_fld (pv 0) pe_non rfl)))))), ?_⟩
    refine ⟨_, rfl, t, tn, rfl, ht, hl, fun ho H1 s1 => ?_, fun ho => q2 ho⟩
    have gp1 := s1 _ _ h1
    have gS1 := s1 _ _ h3
    have gW1 := s1 _ _ h5
    have gt1 := s1 _ _ ht
    have da1 : DA C Z H1 p ds := da.sm s1
    have ivr : iv tn ≠ vs := fun e => by
      have l8 : 8 ≤ vs.length := by rw [pair_len h4]; exact da.lo
      match tn, vs, e, l8, bk_refs h4 with
      | [], vs, e, l8, _ =>
        have e : ([] : List V) = vs := e
        rw [← e] at l8
        simp at l8
      | x :: r, vs, e, l8, hb =>
        have e : V.int x :: iv r = vs := e
        obtain ⟨r', e'⟩ := hb (.int x) (by rw [← e]; exact List.mem_cons_self)
        cases e'
    have ntS : t ≠ S := fun z => by
      rw [z, h3] at ht
      injection ht with ht
      injection ht with ht
      exact ivr ht.symm
    have npS : p ≠ S := ne_of h1 h3 (by intro z; cases z)
    have lu : us.length = ds.wa.length := pair_len h6
    refine ⟨_, rfl, p, C, dx, _, _, rfl, gp1, TD.cl, TD.n2, dF_W, W, _, rfl, SqL.of gW1, for_it (walk_enum (K := K) (a := W) (xs := us)) (fun j σ H' => ∃ (y2 y3 y4 y5 : Option V) (vj : List V), σ = [some (.ref p), some (.ref t), y2, y3, y4, y5] ∧ KS S H1 H' ∧ H' S = some (.lst vj) ∧ Paired (BkR (fun q => Z q ∨ H q = none) H') vj (cutL tn (ds.wa.take j) 0 ds.st))
      ⟨_, _, _, _, vs, rfl, fun q o _ e => e, gS1, pair_imp h4 fun a b => BkR.up fun q b z _ e => ⟨.inl z, s1 _ _ e⟩⟩ (fun j σ H' _ ⟨_, _, _, _, _, _, ks, _⟩ => SqL.of (ks _ _ n.symm gW1)) ?_ ?_⟩
    · rintro j y σ H2 H3 hj ⟨y2, y3, y4, y5, vj, rfl, ks, gS2, pr⟩ ⟨Tq, v1, v2, rfl, nT, rfl, hv1, hv2⟩
      cases hv1
      obtain ⟨e, he, t', q, rfl, zt, gt, zq, gq, lq⟩ := pair_get1 h6 hv2
      have s3 : Same H2 (upd H2 Tq (.tup [.int (j : Nat), .ref t'])) := snew (Same.refl _) nT
      have nt' : t' ≠ S := ne_of gt h3 (by intro z; cases z)
      have nqS : q ≠ S := blk_ne gq lq h3 (bk_refs h4)
      have gp3 := s3 _ _ (ks _ _ npS gp1)
      have gS3 := s3 _ _ gS2
      have gt3 := s3 _ _ (ks _ _ ntS gt1)
      have gt'3 := s3 _ _ (ks _ _ nt' (s1 _ _ gt))
      have gq3 := s3 _ _ (ks _ _ nqS (s1 _ _ gq))
      have lt : e.1 < ds.st.length := da.pl e (List.mem_of_getElem? he)
      obtain ⟨old, hold⟩ : ∃ old, (cutL tn (ds.wa.take j) 0 ds.st)[e.1]? = some old := ⟨_, List.getElem?_eq_getElem (by rw [cutL_len]; exact lt)⟩
      obtain ⟨v0, hv0, r0, rfl, zr0, gr0, lr0⟩ := pair_get pr hold
      have gr03 := s3 _ _ gr0
      have lvj : vj.length = ds.st.length := by rw [pair_len pr, cutL_len]
      obtain ⟨m, hm⟩ : ∃ m : Nat, tn.getD j 0 = m := ⟨(tn.getD j 0).toNat, by have := (okT_get ho j).1; omega⟩
      have hm32 : m ≤ 32 := by have := (okT_get ho j).2; omega
      have em : (tn.getD j 0).toNat = m := by rw [hm]; rfl
      have ec : cutL tn (ds.wa.take (j + 1)) 0 ds.st = (cutL tn (ds.wa.take j) 0 ds.st).set e.1 (e.2.take m ++ old.drop m) := by
        have lj : j < ds.wa.length := by rw [← lu]; exact hj
        rw [List.take_add_one, he]
        show cutL tn (ds.wa.take j ++ [e]) 0 ds.st = _
        rw [cutL_snoc, List.length_take, Nat.min_eq_left (by omega), Nat.zero_add]
        unfold cutE
        rw [em, List.getD_eq_getElem?_getD (l := cutL tn (ds.wa.take j) 0 ds.st), hold]
        rfl
      refine ⟨Tq, _, rfl, SqT.of upd_same, rfl, _, _, rfl, _, _, rfl, ⟨t', _, rfl, SqT.of gt'3, rfl, _, _, rfl, _, _, rfl, rfl, ?_⟩⟩
      refine ⟨rfl, ?_⟩
      refine ⟨_, rfl, _, rfl, t, _, rfl, .inl (SqL.of gt3), _, _, rfl, rfl, _, rfl, ?_⟩
      refine ite_same _ ?_ (fun hc g => ⟨_, rfl, _, rfl, t, _, j, .int m, rfl, rfl, SqL.of gt3, atI_nat (iv_get ?_), g⟩) (fun hc g => ?_)
      · refine ⟨_, rfl, _, rfl, m, rfl, q, _, rfl, SqL.of gq3, fun a1 na1 => ?_⟩
        rw [cut_n]
        generalize hH3 : upd H2 Tq (.tup [.int (j : Nat), .ref t']) = H3 at *
        have s4 : Same H3 (upd H3 a1 (.lst (iv (e.2.take m)))) := snew (Same.refl _) na1
        have ga1 : upd H3 a1 (.lst (iv (e.2.take m))) a1 = some (.lst (iv (e.2.take m))) := upd_same
        generalize hH4 : upd H3 a1 (.lst (iv (e.2.take m))) = H4 at *
        refine ⟨_, rfl, p, C, dx, _, _, rfl, s4 _ _ gp3, TD.cl, TD.n1, dF_S, _, rfl, S, vj, e.1, _, rfl, rfl, SqL.of (s4 _ _ gS3), atI_nat hv0, _, rfl, m, rfl, r0, _, rfl, SqL.of (s4 _ _ gr03), fun a2 na2 => ?_⟩
        rw [cut_from (by omega)]
        have s5 : Same H4 (upd H4 a2 (.lst (iv (old.drop m)))) := snew (Same.refl _) na2
        have ga2 : upd H4 a2 (.lst (iv (old.drop m))) a2 = some (.lst (iv (old.drop m))) := upd_same
        generalize hH5 : upd H4 a2 (.lst (iv (old.drop m))) = H5 at *
        have ll : (e.2.take m ++ old.drop m).length = 32 := by
          rw [List.length_append, List.length_take, List.length_drop, lq, lr0]
          omega
        refine ⟨a1, a2, _, _, rfl, rfl, s5 _ _ ga1, ga2, (by rw [← List.length_append, iv_app, iv_len, ll]; decide), fun a3 na3 => ?_⟩
        rw [iv_app]
        have s6 : Same H5 (upd H5 a3 (.lst (iv (e.2.take m ++ old.drop m)))) := snew (Same.refl _) na3
        have ga3 : upd H5 a3 (.lst (iv (e.2.take m ++ old.drop m))) a3 = some (.lst (iv (e.2.take m ++ old.drop m))) := upd_same
        generalize hH6 : upd H5 a3 (.lst (iv (e.2.take m ++ old.drop m))) = H6 at *
        have s36 : Same H3 H6 := strans s4 (strans s5 s6)
        have s26 : Same H2 H6 := strans s3 s36
        have gS6 := s36 _ _ gS3
        refine ⟨_, rfl, p, C, dx, _, _, rfl, s36 _ _ gp3, TD.cl, TD.n1, dF_S, _, rfl, S, vj, e.1, e.1, rfl, rfl, gS6, ixn (by rw [lvj]; exact lt), ?_⟩
        have n3S : a3 ≠ S := fun z => by
          rw [z] at na3
          rw [s5 _ _ (s4 _ _ gS3)] at na3
          cases na3
        refine ⟨_, _, _, _, _, rfl, fun q o z e => by rw [upd_ne z]; exact s26 q o (ks q o z e), upd_same, ?_⟩
        rw [ec]
        refine pair_set (pair_imp pr fun a b => BkR.up fun q b z lb eb => ⟨z, ?_⟩) e.1 ⟨a3, rfl, .inr ?_, by rw [upd_ne n3S]; exact ga3, ll⟩
        · rw [upd_ne (blk_ne eb lb gS2 (bk_refs pr))]
          exact s26 _ _ eb
        · have k5 : KS S H H5 := fun q o z e => s5 _ _ (s4 _ _ (s3 _ _ (ks q o z (s1 q o e))))
          exact k5.none (by rw [s5 _ _ (s4 _ _ gS3)]; intro z; cases z) na3
      · have hc := of_decide_eq_true hc
        rw [iv_len] at hc
        have hc : j < tn.length := by omega
        rw [← hm, List.getD_eq_getElem?_getD, List.getElem?_eq_getElem hc]
        rfl
      · have hc := of_decide_eq_false hc
        rw [iv_len] at hc
        have e0 : (m : Int) = 0 := by
          rw [← hm, List.getD_eq_getElem?_getD, List.getElem?_eq_none (by omega)]
          rfl
        exact e0 ▸ g
    · rintro σ Hl ⟨y2, y3, y4, y5, vj, rfl, ks, gSl, pr⟩
      rw [lu, List.take_length] at pr
      have gpl := ks _ _ npS gp1
      refine ⟨by decide, fun W2 nW2 => ?_⟩
      have nW2p : p ≠ W2 := ne_of_none gpl nW2
      refine ⟨_, rfl, p, C, dx, _, rfl, (by rw [upd_ne nW2p]; exact gpl), TD.cl, TD.n2, (by show 4 < 1000; decide), ?_⟩
      rw [putF_W]
      refine ⟨_, rfl, p, C, dx, _, _, rfl, upd_same, TD.cl, TD.n3, dF_c, _, _, rfl, rfl, dx, _, upd_same, (by show 4 < 1000; decide), ?_⟩
      refine ⟨_, rfl, p, C, dx, _, rfl, upd_same, TD.cl, TD.n4, ?_, ?_⟩
      · rw [show ((ds.cuts : Int) + 1) = ((ds.cuts + 1 : Nat) : Int) from rfl, putF_c]
        show 4 < 1000
        decide
      rw [show ((ds.cuts : Int) + 1) = ((ds.cuts + 1 : Nat) : Int) from rfl, putF_c, putF_s]
      have kl : ∀ q, q ≠ p → q ≠ W2 → (upd (upd (upd (upd Hl W2 (HO.lst [])) p (HO.ins C dx (dF S W2 ds.cuts v))) p (HO.ins C dx (dF S W2 (ds.cuts + 1) v))) p (HO.ins C dx (dF S W2 (ds.cuts + 1) V.non))) q = Hl q := fun q a b => by
        rw [upd_ne a, upd_ne a, upd_ne a, upd_ne b]
      have kp : (upd (upd (upd (upd Hl W2 (HO.lst [])) p (HO.ins C dx (dF S W2 ds.cuts v))) p (HO.ins C dx (dF S W2 (ds.cuts + 1) v))) p (HO.ins C dx (dF S W2 (ds.cuts + 1) V.non))) p = some (HO.ins C dx (dF S W2 (ds.cuts + 1) V.non)) := upd_same
      have kW : (upd (upd (upd (upd Hl W2 (HO.lst [])) p (HO.ins C dx (dF S W2 ds.cuts v))) p (HO.ins C dx (dF S W2 (ds.cuts + 1) v))) p (HO.ins C dx (dF S W2 (ds.cuts + 1) V.non))) W2 = some (HO.lst []) := by
        rw [upd_ne nW2p.symm, upd_ne nW2p.symm, upd_ne nW2p.symm, upd_same]
      generalize (upd (upd (upd (upd Hl W2 (HO.lst [])) p (HO.ins C dx (dF S W2 ds.cuts v))) p (HO.ins C dx (dF S W2 (ds.cuts + 1) v))) p (HO.ins C dx (dF S W2 (ds.cuts + 1) V.non))) = H9 at *
      have nW2S : W2 ≠ S := fun z => by rw [z, gSl] at nW2; cases nW2
      have nl : ∀ q, H q ≠ none → Hl q ≠ none := fun q a b => a (by
        have : H1 q = none := ks.none (by rw [gSl]; intro z; cases z) b
        exact sfree s1 this)
      have hn : ∀ q, H q ≠ none → H9 q ≠ none := fun q a => by
        by_cases e1 : q = p
        · rw [e1, kp]; intro z; cases z
        by_cases e2 : q = W2
        · rw [e2, kW]; intro z; cases z
        rw [kl q e1 e2]
        exact nl q a
      have up : ∀ q o, q ≠ p → Hl q = some o → H9 q = some o := fun q o a e => by
        rw [kl q a (fun z => by rw [z, nW2] at e; cases e)]
        exact e
      refine q1 ho H9 (fun q o z e => ?_) ⟨⟨dx, S, W2, .non, vj, [], kp, ?_, up _ _ npS.symm gSl, pair_imp pr fun a b => BkR.up fun q b z lb e => ?_, kW, .nil, rfl, ?_, ?_, ?_, ?_, nW2S.symm⟩, ?_, ?_, fun e he => (by cases he), fun q z => z.2⟩
      · exact up q o (fun y => z (y ▸ z1)) (ks q o (fun y => z (y ▸ z3)) (s1 q o e))
      · exact up _ _ (ne_of h2 h1 (by intro z; cases z)) (ks _ _ (ne_of h2 h3 (by intro z; cases z)) (s1 _ _ h2))
      · have e9 := up q _ (fun y => by rw [y, gpl] at e; cases e) e
        exact ⟨⟨z, by rw [e9]; intro z; cases z⟩, e9⟩
      · exact ⟨.inl z1, hn _ (da.al _ z1)⟩
      · exact ⟨.inl z2, hn _ (da.al _ z2)⟩
      · exact ⟨.inl z3, hn _ (da.al _ z3)⟩
      · refine ⟨.inr ?_, by rw [kW]; intro z; cases z⟩
        cases e : H W2 with
        | none => rfl
        | some o => exact absurd nW2 (nl W2 (by rw [e]; intro z; cases z))
      · show 8 ≤ (cutL tn ds.wa 0 ds.st).length
        rw [cutL_len]
        exact da.lo
      · show (cutL tn ds.wa 0 ds.st).length ≤ 400
        rw [cutL_len]
        exact da.hi
end
end K5

set_option maxRecDepth 100000
set_option maxHeartbeats 4000000
/-! count_action, write, flush -/
namespace K5
open PySem hiding Tok code
open PySem.Spec PyProof.Rows GD K1 GS
open L2 hiding rest
/-- what is left of a schedule behind an action; none: the power is cut -/
def stepS (s : DS) : Option DS := match s.sc with
  | none => some s
  | some (0, _) => none
  | some (m + 1, tn) => some ⟨s.st, s.wa, s.cuts, some (m, tn)⟩
def tnS (s : DS) : List Int := match s.sc with
  | none => []
  | some (_, tn) => tn
theorem DA.gr {C : Addr} {Z : Addr → Prop} {H : Hp} {p : Addr} {s : DS} (h : DA C Z H p s) : DA C (grow Z H H) H p s :=
  h.mono (fun q z => ⟨.inl z, h.al q z⟩) fun q z => z.2
theorem DA.gr2 {C : Addr} {Z : Addr → Prop} {H H1 : Hp} {p : Addr} {s : DS} (h : DA C Z H1 p s) (sm : Same H H1) : DA C (grow Z H H1) H1 p s :=
  h.mono (fun q z => ⟨.inl z, h.al q z⟩) fun q z => z.2
theorem DA.gg {C : Addr} {Z : Addr → Prop} {H H1 H2 : Hp} {p : Addr} {s : DS} (k : Kz Z H H1) (h : DA C (grow (grow Z H H1) H1 H2) H2 p s) : DA C (grow Z H H2) H2 p s :=
  h.mono (fun q z => grow_grow k z) fun q z => z.2
theorem Kz.pre {Z : Addr → Prop} {H H1 H2 : Hp} (s : Same H H1) (k : Kz Z H1 H2) : Kz Z H H2 := fun q o z e => k q o z (s q o e)
theorem DA.pre {C : Addr} {Z : Addr → Prop} {H H1 H2 : Hp} {p : Addr} {s : DS} (sm : Same H H1) (h : DA C (grow Z H1 H2) H2 p s) : DA C (grow Z H H2) H2 p s :=
  h.mono (fun q z => ⟨z.1.elim .inl fun n => .inr (sfree sm n), z.2⟩) fun q z => z.2
/-- what the top has written of an exception without its own making -/
structure TxP (K : PySem.W.Frag) (mg : Str → Option Value) (x : Str) (PC : Addr) : Prop where
  g : mg x = some (.ref PC)
  x : PySem.W.excIn K PC [.type "ValueError", .type "Exception", .type "BaseException", .type "object"] "ValueError.__new__" = true
  k : PySem.W.keepIn K (.ref PC) = true
  b : PySem.W.subIn K (.ref PC) (.type "BaseException") = some true
  t : PySem.W.typeIn K (.ref PC) = some (.type "type")
section
variable {P : Program} {w : World} {K : PySem.W.Frag} {mg : Str → Option Value} {base : Heap} {D C PC : Addr}
def spCount (C PC : Addr) : L2.Sp := fun vs H Q E => ∃ (Z : Addr → Prop) (p : Addr) (s : DS), vs = [.ref p] ∧ DA C Z H p s ∧ s.wa.length ≤ 1000 ∧ (tnS s).length ≤ 1000 ∧
  (∀ s', stepS s = some s' → ∀ H', Kz Z H H' → DA C (grow Z H H') H' p s' → Q .non H') ∧
  (stepS s = none → ∀ H', Kz Z H H' → DA C (grow Z H H') H' p (cutM s (tnS s)) → E (.ref PC) none H')
theorem scCount : FnScope ["self", "many", "torn"] ["self"] (defScope mCount) := ⟨rfl, rfl, rfl, by decide +kernel, rfl, by decide +kernel, by decide +kernel⟩
theorem ok_count {f f1 : Addr} {fd fd1 : FuncData} (F : Fun K "count_action" "Disk.count_action" mCount f fd) (T : Txt K mg) (TD : TxD K mg C) (TP : TxP K mg "PowerCut" PC)
    (MK : MO P w K mg base (L2.CX P w) 4 C "cut_power" ["self", "torn"] (spCut C D) f1 fd1) : FnOk P w K mg base (L2.CX P w) 5 f fd ["self"] (spCount C PC) := by
  have sc := scCount
  refine F.okX sc (fun vs H Q E h => ?_) (fun cdv A outer s H vs Q E hr h => ?_)
  · obtain ⟨Z, p, ds, rfl, _⟩ := h
    rfl
  · obtain ⟨Z, p, ds, rfl, da, hw, ht, q1, q2⟩ := h
    obtain ⟨dx, S, W, v, vs, us, h1, h2, h3, h4, h5, h6, h7, z1, z2, z3, z4, n⟩ := da.ex
    refine ⟨_, (pss_cons (ps_if (pt_cmpR op_isN (pe_fld (pv 0) rfl) pe_non (nomark _))
      (pss_one ps_retN)
      pss_nil)
      (pss_cons (ps_asg (pe_fld (pv 0) rfl) (pg_tup rfl (pgs_cons (pg_name (i := 1) sc.nd rfl (Or.inl rfl)) (pgs_cons (pg_name (i := 2) sc.nd rfl (Or.inl rfl)) pgs_nil))))
      (pss_cons (ps_if (pt_cmpR op_eq (pv 1) pe_int (nomark _))
      (pss_cons (ps_expr (pe_meth (pv 0) TD.cl MK.mt MK.ok hr MK.bi .nil passE (pa_cons (pv 2) pa_nil)))
      (pss_one (ps_raise rfl (takes_of rfl rfl rfl rfl) (pmk_own PySem.F.excBase_ValueError TP.x TP.g TP.k (raises_own TP.b TP.t) rfl))))
      pss_nil)
      (pss_one (ps_fld (pv 0) (pe_tup (pa_cons (pe_op op_sub (pv 1) pe_int) (pa_cons (pv 2) pa_nil))) rfl))))), ?_⟩
    refine ⟨_, rfl, p, C, dx, _, _, rfl, h1, TD.cl, TD.n4, dF_s, rfl, _, rfl, ?_⟩
    cases hs : ds.sc with
    | none =>
      rw [hs] at h7
      have h7 : v = .non := h7
      refine iteY (decide_eq_true h7) (q1 ds ?_ H (Kz.sm (Same.refl H)) da.gr)
      unfold stepS
      rw [hs]
    | some x =>
      obtain ⟨m, tn⟩ := x
      rw [hs] at h7
      obtain ⟨t1, t2, e1, y1, g1, y2, n1, n2, g2, b⟩ := h7
      subst e1
      have etn : tnS ds = tn := by unfold tnS; rw [hs]
      rw [etn] at ht q2
      refine iteE (by exact decide_eq_false fun z => by cases z) ?_
      refine ⟨_, rfl, p, C, dx, _, _, rfl, h1, TD.cl, TD.n4, dF_s, t1, _, rfl, SqT.of g1, rfl, _, _, rfl, _, _, rfl, rfl, ?_⟩
      refine ⟨_, rfl, rfl, _, rfl, ?_⟩
      cases m with
      | zero =>
        have e0 : stepS ds = none := by unfold stepS; rw [hs]
        refine iteY (decide_eq_true rfl) ?_
        refine ⟨_, rfl, p, dx, _, rfl, h1, dF_no (by decide +kernel), _, rfl, Z, p, ds, t2, tn, rfl, da, g2, ht, hw, fun _ H' kz d => q2 e0 H' kz d, fun no => ?_⟩
        have : okT tn = true := List.all_eq_true.mpr fun x hx => by
          unfold okc
          rw [Bool.and_eq_true]
          exact ⟨decide_eq_true (b x hx).1, decide_eq_true (b x hx).2⟩
        rw [this] at no
        cases no
      | succ m =>
        have e0 : stepS ds = some ⟨ds.st, ds.wa, ds.cuts, some (m, tn)⟩ := by unfold stepS; rw [hs]
        refine iteE (decide_eq_false fun z => by injection z with z; omega) ?_
        refine ⟨_, rfl, _, _, rfl, rfl, _, rfl, (by show 2 ≤ sizeLine; decide), fun t3 n3 => ?_⟩
        have n3p : p ≠ t3 := ne_of_none h1 n3
        refine ⟨_, rfl, p, C, dx, _, rfl, (by rw [upd_ne n3p]; exact h1), TD.cl, TD.n4, (by show 4 < 1000; decide), ?_⟩
        rw [putF_s]
        show Q .non (upd (upd H t3 (.tup [.int (((m + 1 : Nat) : Int) - 1), .ref t2])) p (.ins C dx (dF S W ds.cuts (.ref t3))))
        rw [show (((m + 1 : Nat) : Int) - 1) = (m : Nat) by omega]
        have kp : upd (upd H t3 (.tup [.int (m : Nat), .ref t2])) p (.ins C dx (dF S W ds.cuts (.ref t3))) p = some (.ins C dx (dF S W ds.cuts (.ref t3))) := upd_same
        have kt : upd (upd H t3 (.tup [.int (m : Nat), .ref t2])) p (.ins C dx (dF S W ds.cuts (.ref t3))) t3 = some (.tup [.int (m : Nat), .ref t2]) := by rw [upd_ne n3p.symm, upd_same]
        have up : ∀ q o, q ≠ p → H q = some o → upd (upd H t3 (.tup [.int (m : Nat), .ref t2])) p (.ins C dx (dF S W ds.cuts (.ref t3))) q = some o := fun q o a e => by
          rw [upd_ne a, upd_ne (ne_of_none e n3)]
          exact e
        generalize upd (upd H t3 (.tup [.int (m : Nat), .ref t2])) p (.ins C dx (dF S W ds.cuts (.ref t3))) = H9 at *
        have hn : ∀ q, H q ≠ none → H9 q ≠ none := fun q a => by
          by_cases e1 : q = p
          · rw [e1, kp]; intro z; cases z
          · cases e : H q with
            | none => exact absurd e a
            | some o => rw [up q o e1 e]; intro z; cases z
        have gz : ∀ q, Z q → grow Z H H9 q := fun q z => ⟨.inl z, hn _ (da.al _ z)⟩
        refine q1 _ e0 H9 (fun q o z e => up q o (fun y => z (y ▸ z1)) e) ⟨⟨dx, S, W, .ref t3, vs, us, kp, up _ _ (ne_of h2 h1 (by intro z; cases z)) h2, up _ _ (ne_of h3 h1 (by intro z; cases z)) h3, pair_imp h4 fun a b => BkR.up fun q b z lb e => ⟨gz q z, up _ _ (ne_of e h1 (by intro z; cases z)) e⟩,
          up _ _ (ne_of h5 h1 (by intro z; cases z)) h5, pair_imp h6 fun a b => WtR.up (fun q b z lb e => ⟨gz q z, up _ _ (ne_of e h1 (by intro z; cases z)) e⟩) (fun q xs z e => ⟨gz q z, up _ _ (ne_of e h1 (by intro z; cases z)) e⟩),
          ⟨t3, t2, rfl, ⟨.inr n3, by rw [kt]; intro z; cases z⟩, kt, gz _ y2, n1, n2, up _ _ (ne_of g2 h1 (by intro z; cases z)) g2, b⟩, gz _ z1, gz _ z2, gz _ z3, gz _ z4, n⟩, da.lo, da.hi, da.pl, fun q z => z.2⟩
/-- a write that waits -/
theorem DA.push {Z : Addr → Prop} {H : Hp} {p : Addr} {s : DS} (da : DA C Z H p s) {n : Nat} {bs : List Int} (lt : n < s.st.length) (lb : bs.length = 32) :
    ∃ dx S W v us, H p = some (.ins C dx (dF S W s.cuts v)) ∧ H W = some (.lst us) ∧ us.length = s.wa.length ∧ Z W ∧ ∀ l t, H l = none → (upd H l (.lst (iv bs))) t = none →
      Kz Z H (upd (upd (upd H l (.lst (iv bs))) t (.tup [.int (n : Nat), .ref l])) W (.lst (us ++ [.ref t]))) ∧
      DA C (grow Z H (upd (upd (upd H l (.lst (iv bs))) t (.tup [.int (n : Nat), .ref l])) W (.lst (us ++ [.ref t])))) (upd (upd (upd H l (.lst (iv bs))) t (.tup [.int (n : Nat), .ref l])) W (.lst (us ++ [.ref t]))) p ⟨s.st, s.wa ++ [(n, bs)], s.cuts, s.sc⟩ := by
  obtain ⟨dx, S, W, v, vs, us, h1, h2, h3, h4, h5, h6, h7, z1, z2, z3, z4, nSW⟩ := da.ex
  refine ⟨dx, S, W, v, us, h1, h5, pair_len h6, z4, fun l t nl nt => ?_⟩
  have nlW : W ≠ l := ne_of_none h5 nl
  have s1 : Same H (upd H l (.lst (iv bs))) := Same.lst (Same.refl _) nl
  have ntW : W ≠ t := ne_of_none (s1 _ _ h5) nt
  have ntl : l ≠ t := fun z => by rw [← z, upd_same] at nt; cases nt
  have nt0 : H t = none := sfree s1 nt
  have kW : upd (upd (upd H l (.lst (iv bs))) t (.tup [.int (n : Nat), .ref l])) W (.lst (us ++ [.ref t])) W = some (.lst (us ++ [.ref t])) := upd_same
  have kt : upd (upd (upd H l (.lst (iv bs))) t (.tup [.int (n : Nat), .ref l])) W (.lst (us ++ [.ref t])) t = some (.tup [.int (n : Nat), .ref l]) := by rw [upd_ne ntW.symm, upd_same]
  have kl : upd (upd (upd H l (.lst (iv bs))) t (.tup [.int (n : Nat), .ref l])) W (.lst (us ++ [.ref t])) l = some (.lst (iv bs)) := by rw [upd_ne nlW.symm, upd_ne ntl, upd_same]
  have up : ∀ q o, q ≠ W → H q = some o → upd (upd (upd H l (.lst (iv bs))) t (.tup [.int (n : Nat), .ref l])) W (.lst (us ++ [.ref t])) q = some o := fun q o a e => by
    rw [upd_ne a, upd_ne (ne_of_none e nt0), upd_ne (ne_of_none e nl)]
    exact e
  generalize upd (upd (upd H l (.lst (iv bs))) t (.tup [.int (n : Nat), .ref l])) W (.lst (us ++ [.ref t])) = H9 at *
  have hn : ∀ q, H q ≠ none → H9 q ≠ none := fun q a => by
    by_cases e1 : q = W
    · rw [e1, kW]; intro z; cases z
    · cases e : H q with
      | none => exact absurd e a
      | some o => rw [up q o e1 e]; intro z; cases z
  have gz : ∀ q, Z q → grow Z H H9 q := fun q z => ⟨.inl z, hn _ (da.al _ z)⟩
  have bn : ∀ q b, b.length = 32 → H q = some (.lst (iv b)) → H9 q = some (.lst (iv b)) := fun q b lb e => by
    refine up q _ (fun z => ?_) e
    rw [z, h5] at e
    injection e with e
    injection e with e
    exact iv_refs lb (wt_refs h6) e.symm
  have tn : ∀ q xs, H q = some (.tup xs) → H9 q = some (.tup xs) := fun q xs e => up q _ (ne_of e h5 (by intro z; cases z)) e
  refine ⟨fun q o z e => up q o (fun y => z (y ▸ z4)) e, ⟨⟨dx, S, W, v, vs, us ++ [.ref t], up _ _ (ne_of h1 h5 (by intro z; cases z)) h1, up _ _ (ne_of h2 h5 (by intro z; cases z)) h2, up _ _ nSW h3, pair_imp h4 fun a b => BkR.up fun q b z lb e => ⟨gz q z, bn q b lb e⟩,
    kW, pair_snoc (pair_imp h6 fun a b => WtR.up (fun q b z lb e => ⟨gz q z, bn q b lb e⟩) (fun q xs z e => ⟨gz q z, tn q xs e⟩)) ⟨t, l, rfl, ⟨.inr nt0, by rw [kt]; intro z; cases z⟩, kt, ⟨.inr nl, by rw [kl]; intro z; cases z⟩, kl, lb⟩, ?_, gz _ z1, gz _ z2, gz _ z3, gz _ z4, nSW⟩, da.lo, da.hi, fun e he => ?_, fun q z => z.2⟩⟩
  · revert h7
    show ScR Z H S W v s.sc → ScR (grow Z H H9) H9 S W v s.sc
    cases s.sc with
    | none => exact fun z => z
    | some x =>
      obtain ⟨m, t⟩ := x
      exact fun ⟨t1, t2, e, y1, g1, y2, n1, n2, g2, b⟩ => ⟨t1, t2, e, gz _ y1, tn _ _ g1, gz _ y2, n1, n2, up _ _ n2 g2, b⟩
  · rcases List.mem_append.mp he with he | he
    · exact da.pl e he
    · rw [List.mem_singleton.mp he]
      exact lt
def okb (x : Int) : Bool := decide (0 ≤ x) && decide (x ≤ 255)
def okB (bs : List Int) : Bool := bs.all okb
def spWrite (C D PC : Addr) : L2.Sp := fun vs H Q E => ∃ (Z : Addr → Prop) (p : Addr) (s : DS) (i : Int) (b : Addr) (bs : List Int), vs = [.ref p, .int i, .ref b] ∧ DA C Z H p s ∧ H b = some (.lst (iv bs)) ∧ ¬ Z b ∧ bs.length ≤ 1000 ∧ s.wa.length ≤ 900 ∧ (tnS s).length ≤ 1000 ∧
  (i < 0 ∨ (s.st.length : Int) ≤ i → OErr E D H "at") ∧ ∀ n : Nat, i = n → n < s.st.length → (bs.length ≠ 32 ∨ okB bs = false → OErr E D H "block") ∧ (bs.length = 32 → okB bs = true →
    (∀ s', stepS s = some s' → ∀ H', Kz Z H H' → DA C (grow Z H H') H' p ⟨s'.st, s'.wa ++ [(n, bs)], s'.cuts, s'.sc⟩ → Q .non H') ∧
    (stepS s = none → ∀ H', Kz Z H H' → DA C (grow Z H H') H' p (cutM s (tnS s)) → E (.ref PC) none H'))
theorem scWrite : FnScope ["self", "at", "block", "byte"] ["self", "at", "block"] (defScope mWrite) := ⟨rfl, rfl, rfl, by decide +kernel, rfl, by decide +kernel, by decide +kernel⟩
theorem step_st {s s' : DS} (h : stepS s = some s') : s'.st = s.st ∧ s'.wa = s.wa ∧ s'.cuts = s.cuts := by
  unfold stepS at h
  split at h
  · cases h; exact ⟨rfl, rfl, rfl⟩
  · cases h
  · cases h; exact ⟨rfl, rfl, rfl⟩
theorem ok_write {f f1 f2 fI : Addr} {fd fd1 fd2 fdI : FuncData} (F : Fun K "write" "Disk.write" mWrite f fd) (T : Txt K mg) (T3 : Txt3 mg) (TD : TxD K mg C) (TO : TxO K mg D fI)
    (bI : Binds K fdI ["self", "name"] []) (FI : FnOk P w K mg base CX0 1 fI fdI ["self", "name"] (spOInit D))
    (MI : MO P w K mg base (L2.CX P w) 3 C "check_index" ["self", "at"] (spIndex C D) f1 fd1) (MC : MO P w K mg base (L2.CX P w) 5 C "count_action" ["self"] (spCount C PC) f2 fd2) :
    FnOk P w K mg base (L2.CX P w) 6 f fd ["self", "at", "block"] (spWrite C D PC) := by
  have sc := scWrite
  obtain ⟨t1, gBLOCK⟩ := TD.BLOCK
  obtain ⟨t2, gBYTE⟩ := TD.BYTE
  refine F.okX sc (fun vs H Q E h => ?_) (fun cdv A outer s H vs Q E hr h => ?_)
  · obtain ⟨Z, p, ds, i, b, bs, rfl, _⟩ := h
    rfl
  · obtain ⟨Z, p, ds, i, b, bs, rfl, da, hb, nb, lb, hw, ht, q1, q2⟩ := h
    obtain ⟨dx, S, W, v, vs, us, h1, h2, h3, h4, h5, h6, h7, z1, z2, z3, z4, n⟩ := da.ex
    have hr1 : Room 2 _ := hr.mono (by decide)
    have hr2 : Room 3 _ := hr.mono (by decide)
    refine ⟨_, (pss_cons (ps_expr (pe_meth (pv 0) TD.cl MI.mt MI.ok hr2 MI.bi .nil passE (pa_cons (pv 1) pa_nil)))
      (pss_cons (ps_if (PW.pt (pw_or (pt_cmpR op_ne (pe_callB call_len_seq (by rfl) T.len (by decide +kernel) (pa_cons (pv 2) pa_nil)) (pe_gint rfl gBLOCK) (nomark _)) (pw_or1 (pt_not (pt_val (pe_callB (cr_all rfl) (by rfl) T3.all (by decide +kernel) (pa_cons (pe_lc (own := [("byte", 3)]) rfl sc.nd (pi_list (pv 2)) (blkOk_by (own := [("byte", 3)]) (N := ["self", "at", "block", "byte"]) (sc := defScope mWrite) (by decide +kernel)) (fun _ _ _ _ _ => (pg_name (i := 3) sc.nd rfl (Or.inl rfl))) (fun _ _ _ _ _ => pts_nil) (fun _ _ _ _ _ => (pe_chain op_le op_le pe_int (pv 3) (pe_gint rfl gBYTE)))) pa_nil)))))))
      (pss_one (ps_raise rfl (takes_of rfl rfl rfl rfl) (pmk_oex TO.oc TO.ini TO.tyI FI hr1 bI .nil pass0 rfl TO.g (pa_cons pe_str pa_nil))))
      pss_nil)
      (pss_cons (ps_expr (pe_meth0 (pv 0) TD.cl MC.mt MC.ok hr MC.bi .nil passE))
      (pss_one (ps_expr (pe_bm PySem.F.plainAttrs_list PySem.F.slot_list_append PySem.F.type_list_append mt_append (pe_fld (pv 0) rfl) (pa_cons (pe_tup (pa_cons (pv 1) (pa_cons (pe_callTy call_list_of (by rfl) T.blist (by decide +kernel) (pa_cons (pv 2) pa_nil)) pa_nil))) pa_nil))))))), ?_⟩
    refine ⟨_, rfl, p, dx, _, rfl, h1, dF_no (by decide +kernel), _, rfl, Z, p, ds, i, rfl, da, fun l0 l1 => ?_, q1⟩
    obtain ⟨m, rfl⟩ : ∃ m : Nat, i = m := ⟨i.toNat, by omega⟩
    have lm : m < ds.st.length := by omega
    obtain ⟨q3, q4⟩ := q2 m rfl lm
    refine ⟨_, rfl, b, _, rfl, .inl (SqL.of hb), rfl, _, rfl, ?_⟩
    rw [iv_len]
    by_cases l32 : bs.length = 32
    · refine iteE (by rw [l32]; exact (congrArg (!·) (decide_eq_true rfl))) ?_
      refine ⟨_, rfl, b, rfl, ⟨_, SqL.of hb⟩, fun l nl => ?_⟩
      refine lc_it (walk_list (K := K) (a := b) (xs := iv bs)) (fun j H' => Same H H' ∧ H' l = some (.lst (((bs.take j).map okb).map V.bl))) ⟨Same.lst (Same.refl _) nl, upd_same⟩ (fun i H' _ pv => SqL.of (pv.1 _ _ hb)) (fun j x H2 H3 hj pv y => ?_) (fun H2 pv => ?_)
      · obtain ⟨rfl, hx⟩ := y
        unfold iv at hx
        rw [List.getElem?_map, Option.map_eq_some_iff] at hx
        obtain ⟨i, hi, rfl⟩ := hx
        refine ⟨rfl, ?_⟩
        have fin : ∀ b, okb i = b → ∃ acc : List V, H3 l = some (.lst acc) ∧ acc.length < sizeLine ∧ Same H (upd H3 l (.lst (acc ++ [V.bl b]))) ∧ (upd H3 l (.lst (acc ++ [V.bl b]))) l = some (.lst (((bs.take (j + 1)).map okb).map V.bl)) := fun b e => by
          refine ⟨_, pv.2, ?_, Same.lst pv.1 nl, ?_⟩
          · rw [List.length_map, List.length_map, List.length_take]
            exact szlt (by omega)
          · rw [upd_same, List.take_add_one, hi, ← e, List.map_append, List.map_append]
            rfl
        refine ⟨_, rfl, _, _, rfl, rfl, _, rfl, ?_⟩
        cases h0 : decide ((0 : Int) ≤ i) with
        | false => exact iteF (fin _ (by unfold okb; rw [h0]; rfl))
        | true => exact iteT ⟨_, _, rfl, rfl, (fin _ (by unfold okb; rw [h0]; rfl))⟩
      have lv : (iv bs).length = bs.length := List.length_map _
      rw [lv, List.take_length] at pv
      obtain ⟨s2, el⟩ := pv
      refine ⟨l, bs.map okb, rfl, SqL.of el, _, rfl, ?_⟩
      have ea : (bs.map okb).all id = okB bs := by
        rw [List.all_map]
        rfl
      rw [ea]
      cases ho : okB bs with
      | false => exact iteT (oor_k s2 (by decide +kernel) (q3 (.inr ho)))
      | true =>
        refine iteF ?_
        obtain ⟨q5, q6⟩ := q4 l32 ho
        refine ⟨_, rfl, p, dx, _, rfl, s2 _ _ h1, dF_no (by decide +kernel), Z, p, ds, rfl, da.sm s2, by omega, ht, fun s' es H3 kz d3 => ?_, fun es H3 kz d3 => q6 es H3 (kz.pre s2) (d3.pre s2)⟩
        obtain ⟨e1, e2, e3⟩ := step_st es
        have kz0 := kz.pre s2
        have d0 := d3.pre s2
        obtain ⟨dx3, S3, W3, v3, us3, g1, g2, g3, g4, push⟩ := d0.push (n := m) (bs := bs) (by rw [e1]; exact lm) l32
        refine ⟨_, rfl, p, C, dx3, _, _, rfl, g1, TD.cl, TD.n2, dF_W, .inl ⟨rfl, _, SqL.of g2⟩, _, rfl, _, rfl, b, _, rfl, .inl (SqL.of (kz0 _ _ nb hb)), fun l2 nl2 => ⟨(by show 2 ≤ sizeLine; decide), fun t nt => ?_⟩⟩
        obtain ⟨k4, d4⟩ := push l2 t nl2 nt
        refine ⟨W3, us3, _, rfl, rfl, ?_, (by rw [g3, e2]; exact szlt (by omega)), q5 s' es _ (kz0.trans k4) (d4.gg kz0)⟩
        rw [upd_ne (ne_of_none (Same.lst (Same.refl H3) nl2 _ _ g2) nt), upd_ne (ne_of_none g2 nl2)]
        exact g2
    · refine iteY (by exact (congrArg (!·) (decide_eq_false fun z => l32 (by injection z with z; exact Int.ofNat.inj z)))) ?_
      exact iteT (oor_k (Same.refl H) (by decide +kernel) (q3 (.inl l32)))
def flF (st : List (List Int)) (e : Nat × List Int) : List (List Int) := st.set e.1 e.2
def flM (s : DS) : DS := ⟨s.wa.foldl flF s.st, [], s.cuts, s.sc⟩
theorem fl_len : ∀ (l : List (Nat × List Int)) (st : List (List Int)), (l.foldl flF st).length = st.length
  | [], _ => rfl
  | e :: r, st => by
    show (r.foldl flF (flF st e)).length = _
    rw [fl_len r]
    exact List.length_set
def spFlush (C PC : Addr) : L2.Sp := fun vs H Q E => ∃ (Z : Addr → Prop) (p : Addr) (s : DS), vs = [.ref p] ∧ DA C Z H p s ∧ s.wa.length ≤ 1000 ∧ (tnS s).length ≤ 1000 ∧
  (∀ s', stepS s = some s' → ∀ H', Kz Z H H' → DA C (grow Z H H') H' p (flM s') → Q .non H') ∧
  (stepS s = none → ∀ H', Kz Z H H' → DA C (grow Z H H') H' p (cutM s (tnS s)) → E (.ref PC) none H')
theorem scFlush : FnScope ["self", "at", "block"] ["self"] (defScope mFlush) := ⟨rfl, rfl, rfl, by decide +kernel, rfl, by decide +kernel, by decide +kernel⟩
theorem ok_flush {f f2 : Addr} {fd fd2 : FuncData} (F : Fun K "flush" "Disk.flush" mFlush f fd) (TD : TxD K mg C) (MC : MO P w K mg base (L2.CX P w) 5 C "count_action" ["self"] (spCount C PC) f2 fd2) :
    FnOk P w K mg base (L2.CX P w) 6 f fd ["self"] (spFlush C PC) := by
  have sc := scFlush
  refine F.okX sc (fun vs H Q E h => ?_) (fun cdv A outer s H vs Q E hr h => ?_)
  · obtain ⟨Z, p, ds, rfl, _⟩ := h
    rfl
  · obtain ⟨Z, p, ds, rfl, da, hw, ht, q1, q2⟩ := h
    refine ⟨_, (pss_cons (ps_expr (pe_meth0 (pv 0) TD.cl MC.mt MC.ok hr MC.bi .nil passE))
      (pss_cons (ps_for (passes_of rfl) rfl (pi_list (pe_fld (pv 0) rfl)) (pg_tup rfl (pgs_cons (pg_name (i := 1) sc.nd rfl (Or.inl rfl)) (pgs_cons (pg_name (i := 2) sc.nd rfl (Or.inl rfl)) pgs_nil)))
      (pss_one (ps_asg (pv 2) (pg_sub (pe_fld (pv 0) rfl) (pv 1) set_list))))
      (pss_one (ps_fld (pv 0) (pe_lst pa_nil) rfl)))), ?_⟩
    obtain ⟨dx0, S0, W0, v0, vs0, us0, h10, _⟩ := da.ex
    refine ⟨_, rfl, p, dx0, _, rfl, h10, dF_no (by decide +kernel), Z, p, ds, rfl, da, hw, ht, fun s' es H1 kz d1 => ?_, q2⟩
    have q3 := q1 s' es
    obtain ⟨e1, e2, e3⟩ := step_st es
    obtain ⟨dx, S, W, v, vs, us, h1, h2, h3, h4, h5, h6, h7, z1, z2, z3, z4, n⟩ := d1.ex
    have npS : p ≠ S := ne_of h1 h3 (by intro z; cases z)
    have lu : us.length = s'.wa.length := pair_len h6
    refine ⟨_, rfl, p, C, dx, _, _, rfl, h1, TD.cl, TD.n2, dF_W, W, rfl, ⟨_, SqL.of h5⟩, for_list (K := K) (a := W) (xs := us) (fun j σ H' => ∃ (y1 y2 : Option V) (vj : List V), σ = [some (.ref p), y1, y2] ∧ KS S H1 H' ∧ (∀ q, H1 q ≠ none → H' q ≠ none) ∧ H' S = some (.lst vj) ∧ Paired (BkR (grow Z H H1) H1) vj ((s'.wa.take j).foldl flF s'.st))
      ⟨_, _, vs, rfl, fun q o _ e => e, fun q a => a, h3, h4⟩ (fun j σ H' _ ⟨_, _, _, _, ks, _⟩ => SqL.of (ks _ _ n.symm h5)) ?_ ?_⟩
    · rintro j y σ H2 hj ⟨y1, y2, vj, rfl, ks, nn, gS2, pr⟩
      obtain ⟨e, he, t', q, rfl, zt, gt, zq, gq, lq⟩ := pair_get1 h6 hj
      have nt' : t' ≠ S := ne_of gt h3 (by intro z; cases z)
      have lt : e.1 < s'.st.length := d1.pl e (List.mem_of_getElem? he)
      have lvj : vj.length = s'.st.length := by rw [pair_len pr, fl_len]
      refine ⟨t', _, rfl, SqT.of (ks _ _ nt' gt), rfl, _, _, rfl, _, _, rfl, rfl, ?_⟩
      refine ⟨_, rfl, _, rfl, p, C, dx, _, _, rfl, ks _ _ npS h1, TD.cl, TD.n1, dF_S, _, rfl, S, vj, e.1, e.1, rfl, rfl, gS2, ixn (by rw [lvj]; exact lt), ?_⟩
      refine ⟨_, _, _, rfl, fun q o z e => by rw [upd_ne z]; exact ks q o z e, fun q a => ?_, upd_same, ?_⟩
      · by_cases z : q = S
        · rw [z, upd_same]; intro z; cases z
        · rw [upd_ne z]; exact nn q a
      · rw [List.take_add_one, he, List.foldl_append]
        exact pair_set pr e.1 ⟨q, rfl, zq, gq, lq⟩
    · rintro σ Hl ⟨y1, y2, vj, rfl, ks, nn, gSl, pr⟩
      rw [lu, List.take_length] at pr
      have gpl := ks _ _ npS h1
      refine ⟨by decide, fun W2 nW2 => ?_⟩
      have nW2p : p ≠ W2 := ne_of_none gpl nW2
      refine ⟨_, rfl, p, C, dx, _, rfl, (by rw [upd_ne nW2p]; exact gpl), TD.cl, TD.n2, (by show 4 < 1000; decide), ?_⟩
      rw [putF_W]
      have kl : ∀ q, q ≠ p → q ≠ W2 → (upd (upd Hl W2 (HO.lst [])) p (HO.ins C dx (dF S W2 s'.cuts v))) q = Hl q := fun q a b => by
        rw [upd_ne a, upd_ne b]
      have kp : (upd (upd Hl W2 (HO.lst [])) p (HO.ins C dx (dF S W2 s'.cuts v))) p = some (HO.ins C dx (dF S W2 s'.cuts v)) := upd_same
      have kW : (upd (upd Hl W2 (HO.lst [])) p (HO.ins C dx (dF S W2 s'.cuts v))) W2 = some (HO.lst []) := by
        rw [upd_ne nW2p.symm, upd_same]
      generalize (upd (upd Hl W2 (HO.lst [])) p (HO.ins C dx (dF S W2 s'.cuts v))) = H9 at *
      have nW2S : W2 ≠ S := fun z => by rw [z, gSl] at nW2; cases nW2
      have hn : ∀ q, H1 q ≠ none → H9 q ≠ none := fun q a => by
        by_cases e1 : q = p
        · rw [e1, kp]; intro z; cases z
        by_cases e2 : q = W2
        · rw [e2, kW]; intro z; cases z
        rw [kl q e1 e2]
        exact nn q a
      have up : ∀ q o, q ≠ p → Hl q = some o → H9 q = some o := fun q o a e => by
        rw [kl q a (fun z => by rw [z, nW2] at e; cases e)]
        exact e
      have up1 : ∀ q o, q ≠ p → q ≠ S → H1 q = some o → H9 q = some o := fun q o a b e => up q o a (ks q o b e)
      have gz : ∀ q, grow Z H H1 q → grow (grow Z H H1) H1 H9 q := fun q z => ⟨.inl z, hn _ (d1.al _ z)⟩
      have kz1 : Kz (grow Z H H1) H1 H9 := fun q o z e => up1 q o (fun y => z (y ▸ z1)) (fun y => z (y ▸ z3)) e
      have d9 : DA C (grow (grow Z H H1) H1 H9) H9 p (flM s') := by
        refine ⟨⟨dx, S, W2, v, vj, [], kp, up1 _ _ (ne_of h2 h1 (by intro z; cases z)) (ne_of h2 h3 (by intro z; cases z)) h2, up _ _ npS.symm gSl, pair_imp pr fun a b => BkR.up fun q b z lb e => ?_, kW, .nil, ?_, gz _ z1, gz _ z2, gz _ z3, ?_, nW2S.symm⟩, ?_, ?_, fun e he => (by cases he), fun q z => z.2⟩
        · exact ⟨gz q z, up1 q _ (ne_of e h1 (by intro z; cases z)) (blk_ne e lb h3 (bk_refs h4)) e⟩
        · revert h7
          show ScR (grow Z H H1) H1 S W v s'.sc → ScR (grow (grow Z H H1) H1 H9) H9 S W2 v s'.sc
          cases s'.sc with
          | none => exact fun z => z
          | some x =>
            obtain ⟨m, t⟩ := x
            exact fun ⟨t1, t2, e, y1, g1, y2, n1, n2, g2, b⟩ => ⟨t1, t2, e, gz _ y1, up1 _ _ (ne_of g1 h1 (by intro z; cases z)) (ne_of g1 h3 (by intro z; cases z)) g1, gz _ y2, n1, (fun z => by rw [z] at g2; exact nn W2 (by rw [g2]; intro z; cases z) nW2), up1 _ _ (ne_of g2 h1 (by intro z; cases z)) n1 g2, b⟩
        · refine ⟨.inr ?_, by rw [kW]; intro z; cases z⟩
          cases e : H1 W2 with
          | none => rfl
          | some o => exact absurd nW2 (nn W2 (by rw [e]; intro z; cases z))
        · show 8 ≤ (s'.wa.foldl flF s'.st).length
          rw [fl_len]
          exact d1.lo
        · show (s'.wa.foldl flF s'.st).length ≤ 400
          rw [fl_len]
          exact d1.hi
      exact q3 H9 (kz.trans kz1) (d9.gg kz)
end
end K5

set_option maxRecDepth 100000
set_option maxHeartbeats 4000000
/-! a new disk; the law's torn writes, its blocks -/
namespace K5
open PySem hiding Tok code
open PySem.Spec PyProof.Rows GD K1 GS
open L2 hiding rest
abbrev sLTorn : Stmt := topS 9999
def z32 : List Int := List.replicate 32 0
theorem dF_new {S W : Addr} : putF "scheduled" .non (putF "cuts" (.int 0) (putF "waiting" (.ref W) (putF "stored" (.ref S) []))) = dF S W 0 .non := by
  unfold dF
  simp [putF, show ¬ (("stored" : Str) = "waiting") by decide +kernel, show ¬ (("stored" : Str) = "cuts") by decide +kernel, show ¬ (("waiting" : Str) = "cuts") by decide +kernel, show ¬ (("stored" : Str) = "scheduled") by decide +kernel, show ¬ (("waiting" : Str) = "scheduled") by decide +kernel, show ¬ (("cuts" : Str) = "scheduled") by decide +kernel]
def DS0 (n : Nat) : DS := ⟨List.replicate n z32, [], 0, none⟩
theorem _root_.K1.Bs.wr {b d D : Addr} {ds : List Int} {H H' : Hp} {n n0 : Nat} {o : HO} (h : Bs b d ds H H' n) (x : Box H b d ds n0) (nD : H D = none) : Bs b d ds H (upd H' D o) n := by
  have nb : b ≠ D := ne_of_none x.1 nD
  have nd : d ≠ D := ne_of_none x.2.1 nD
  refine ⟨fun c u nc hc => ?_, ⟨by rw [upd_ne nb]; exact h.box.1, by rw [upd_ne nd]; exact h.box.2.1, h.box.2.2⟩, fun c hc => ?_⟩
  · rw [upd_ne (ne_of_none hc nD)]
    exact h.bx c u nc hc
  · by_cases e : c = D
    · rw [e]; exact nD
    · rw [upd_ne e] at hc
      exact h.free c hc
section
variable {P : Program} {w : World} {K : PySem.W.Frag} {mg : Str → Option Value} {base : Heap} {D C fI : Addr}
def spDInit (C D : Addr) : L2.Sp := fun vs H Q E => ∃ (p dx : Addr) (i : Int), vs = [.ref p, .int i] ∧ H p = some (.ins C dx []) ∧ H dx = some (.own p) ∧
  (∀ n : Nat, i = n → 8 ≤ n → n ≤ 400 → ∀ H' Z, (∀ q o, q ≠ p → H q = some o → H' q = some o) → (∀ q, Z q → q = p ∨ q = dx ∨ H q = none) → DA C Z H' p (DS0 n) → Q .non H') ∧ (i < 8 ∨ 400 < i → OErr E D H "blocks")
theorem scDInit : FnScope ["self", "blocks", "_"] ["self", "blocks"] (defScope mDInit) := ⟨rfl, rfl, rfl, by decide +kernel, rfl, by decide +kernel, by decide +kernel⟩
theorem ok_dinit {f : Addr} {fd fdI : FuncData} (F : Fun K "__init__" "Disk.__init__" mDInit f fd) (T : Txt K mg) (TD : TxD K mg C) (TO : TxO K mg D fI)
    (bI : Binds K fdI ["self", "name"] []) (FI : FnOk P w K mg base CX0 1 fI fdI ["self", "name"] (spOInit D)) : FnOk P w K mg base (L2.CX P w) 3 f fd ["self", "blocks"] (spDInit C D) := by
  have sc := scDInit
  obtain ⟨t1, gBLOCK⟩ := TD.BLOCK
  obtain ⟨t2, gLEAST⟩ := TD.LEAST
  obtain ⟨t3, gMOST⟩ := TD.MOST
  refine F.okX sc (fun vs H Q E h => ?_) (fun cdv A outer s H vs Q E hr h => ?_)
  · obtain ⟨p, dx, i, rfl, _⟩ := h
    rfl
  · obtain ⟨p, dx, i, rfl, hp, hdx, q1, q2⟩ := h
    have hr1 := hr
    refine ⟨_, (pss_cons (ps_if (pt_not (pt_chain op_le op_le (pe_gint rfl gLEAST) (pv 1) (pe_gint rfl gMOST)))
      (pss_one (ps_raise rfl (takes_of rfl rfl rfl rfl) (pmk_oex TO.oc TO.ini TO.tyI FI hr1 bI .nil pass0 rfl TO.g (pa_cons pe_str pa_nil))))
      pss_nil)
      (pss_cons (ps_fld (pv 0) (pe_lc (own := [("_", 2)]) rfl sc.nd (pi_range1 rfl T.range (pa_cons (pv 1) pa_nil)) (blkOk_by (own := [("_", 2)]) (N := ["self", "blocks", "_"]) (sc := defScope mDInit) (by decide +kernel)) (fun _ _ _ _ _ => (pg_name (i := 2) sc.nd rfl (Or.inl rfl))) (fun _ _ _ _ _ => pts_nil) (fun _ _ _ _ _ => (pe_op op_rep (pe_lst (pa_cons pe_int pa_nil)) (pe_gint rfl gBLOCK)))) rfl)
      (pss_cons (ps_fld (pv 0) (pe_lst pa_nil) rfl)
      (pss_cons (ps_fld (pv 0) pe_int rfl)
      (pss_one (ps_fld (pv 0) pe_non rfl)))))), ?_⟩
    refine ⟨_, rfl, _, _, rfl, rfl, _, rfl, ?_⟩
    cases e0 : decide ((8 : Int) ≤ i) with
    | false => exact iteF ⟨_, rfl, iteT (oor_k (Same.refl H) (by decide +kernel) (q2 (.inl (by have := of_decide_eq_false e0; omega))))⟩
    | true =>
    refine iteT ⟨_, _, rfl, rfl, _, rfl, ?_⟩
    cases e1 : decide (i ≤ (400 : Int)) with
    | false => exact iteT (oor_k (Same.refl H) (by decide +kernel) (q2 (.inr (by have := of_decide_eq_false e1; omega))))
    | true =>
    have e0 := of_decide_eq_true e0
    have e1 := of_decide_eq_true e1
    obtain ⟨m, rfl⟩ : ∃ m : Nat, i = m := ⟨i.toNat, by omega⟩
    refine iteF ?_
    refine ⟨_, rfl, _, rfl, by omega, by omega, fun S nS => ?_⟩
    have nSp : p ≠ S := ne_of_none hp nS
    have nSd : dx ≠ S := ne_of_none hdx nS
    refine lc_range (lo := 0) (n := m) (fun j H' => ∃ vj, Same H H' ∧ H' S = some (.lst vj) ∧ Paired (BkR (fun q => H q = none ∧ H' q ≠ none) H') vj (List.replicate j z32))
      ⟨[], Same.lst (Same.refl _) nS, upd_same, .nil⟩ (fun j H1 hj ⟨vj, s1, gS, pr⟩ => ?_) (fun H1 ⟨vj, s1, gS, pr⟩ => ?_)
    · refine ⟨rfl, (by show 1 ≤ sizeLine; decide), fun z nz => ?_⟩
      have s2 : Same H1 (upd H1 z (.lst [V.int 0])) := Same.lst (Same.refl H1) nz
      refine ⟨z, _, _, rfl, rfl, upd_same, by decide, by decide, by decide, fun l nl => ?_⟩
      have ez : (List.replicate (32 : Int).toNat [V.int 0]).flatten = iv z32 := by rw [rep_flat]; exact rep_iv 32 0
      rw [ez] at *
      have s3 : Same H1 (upd (upd H1 z (.lst [V.int 0])) l (.lst (iv z32))) := snew s2 nl
      have gS3 := s3 _ _ gS
      have lvj : vj.length = j := by rw [pair_len pr, List.length_replicate]
      have nlS : l ≠ S := fun y => by rw [y, s2 _ _ gS] at nl; cases nl
      refine ⟨vj, gS3, by rw [lvj]; exact szlt (by omega), vj ++ [.ref l], fun q o e => ?_, upd_same, ?_⟩
      · have e3 := s3 q o (s1 q o e)
        rw [upd_ne (fun y => by rw [y, nS] at e; cases e)]
        exact e3
      · rw [List.replicate_succ']
        have nn : ∀ q, (upd (upd H1 z (.lst [V.int 0])) l (.lst (iv z32))) q ≠ none → upd (upd (upd H1 z (.lst [V.int 0])) l (.lst (iv z32))) S (.lst (vj ++ [.ref l])) q ≠ none := fun q a => by
          by_cases y : q = S
          · rw [y, upd_same]; intro z; cases z
          · rw [upd_ne y]; exact a
        refine pair_snoc (pair_imp pr fun a b => BkR.up fun q b z lb e => ?_) ⟨l, rfl, ⟨sfree (strans s1 s2) nl, nn l (by rw [upd_same]; intro z; cases z)⟩, by rw [upd_ne nlS, upd_same], by decide⟩
        have e3 := s3 _ _ e
        exact ⟨⟨z.1, nn q (by rw [e3]; intro z; cases z)⟩, by rw [upd_ne (blk_ne e lb gS (bk_refs pr))]; exact e3⟩
    have g1 := s1 _ _ hp
    have g2 := s1 _ _ hdx
    refine ⟨_, rfl, p, C, dx, _, rfl, g1, TD.cl, TD.n1, (by show 0 < 1000; decide), ?_⟩
    have nSp1 : S ≠ p := nSp.symm
    refine ⟨by decide, fun W nW => ?_⟩
    have nWp : p ≠ W := ne_of_none upd_same nW
    have nW1 : H1 W = none := by rw [upd_ne nWp.symm] at nW; exact nW
    have nWS : W ≠ S := fun y => by rw [y, gS] at nW1; cases nW1
    refine ⟨_, rfl, p, C, dx, _, rfl, (by rw [upd_ne nWp, upd_same]), TD.cl, TD.n2, (by show 1 < 1000; decide), ?_⟩
    refine ⟨_, rfl, p, C, dx, _, rfl, upd_same, TD.cl, TD.n3, (by show 2 < 1000; decide), ?_⟩
    refine ⟨_, rfl, p, C, dx, _, rfl, upd_same, TD.cl, TD.n4, (by show 3 < 1000; decide), ?_⟩
    rw [dF_new]
    refine q1 m rfl (by omega) (by omega) _ (fun q => (q = p ∨ q = dx ∨ H q = none) ∧ (upd (upd (upd (upd (upd H1 p (.ins C dx (putF "stored" (.ref S) []))) W (.lst [])) p (.ins C dx (putF "waiting" (.ref W) (putF "stored" (.ref S) [])))) p (.ins C dx (putF "cuts" (.int 0) (putF "waiting" (.ref W) (putF "stored" (.ref S) []))))) p (.ins C dx (dF S W 0 .non))) q ≠ none) ?_ (fun q z => z.1) ?_
    all_goals
      have kp : (upd (upd (upd (upd (upd H1 p (.ins C dx (putF "stored" (.ref S) []))) W (.lst [])) p (.ins C dx (putF "waiting" (.ref W) (putF "stored" (.ref S) [])))) p (.ins C dx (putF "cuts" (.int 0) (putF "waiting" (.ref W) (putF "stored" (.ref S) []))))) p (.ins C dx (dF S W 0 .non))) p = some (.ins C dx (dF S W 0 .non)) := upd_same
      have kW : (upd (upd (upd (upd (upd H1 p (.ins C dx (putF "stored" (.ref S) []))) W (.lst [])) p (.ins C dx (putF "waiting" (.ref W) (putF "stored" (.ref S) [])))) p (.ins C dx (putF "cuts" (.int 0) (putF "waiting" (.ref W) (putF "stored" (.ref S) []))))) p (.ins C dx (dF S W 0 .non))) W = some (.lst []) := by
        rw [upd_ne nWp.symm, upd_ne nWp.symm, upd_ne nWp.symm, upd_same]
      have up : ∀ q o, q ≠ p → H1 q = some o → (upd (upd (upd (upd (upd H1 p (.ins C dx (putF "stored" (.ref S) []))) W (.lst [])) p (.ins C dx (putF "waiting" (.ref W) (putF "stored" (.ref S) [])))) p (.ins C dx (putF "cuts" (.int 0) (putF "waiting" (.ref W) (putF "stored" (.ref S) []))))) p (.ins C dx (dF S W 0 .non))) q = some o := fun q o a e => by
        rw [upd_ne a, upd_ne a, upd_ne a, upd_ne (ne_of_none e nW1), upd_ne a]
        exact e
      generalize (upd (upd (upd (upd (upd H1 p (.ins C dx (putF "stored" (.ref S) []))) W (.lst [])) p (.ins C dx (putF "waiting" (.ref W) (putF "stored" (.ref S) [])))) p (.ins C dx (putF "cuts" (.int 0) (putF "waiting" (.ref W) (putF "stored" (.ref S) []))))) p (.ins C dx (dF S W 0 .non))) = H9 at *
    · exact fun q o a e => up q o a (s1 q o e)
    · have nd9 : dx ≠ p := ne_of hdx hp (by intro z; cases z)
      have g29 := up _ _ nd9 g2
      have gS9 := up _ _ nSp1 gS
      refine ⟨⟨dx, S, W, .non, vj, [], kp, g29, gS9, pair_imp pr fun a b => BkR.up fun q b z lb e => ?_, kW, .nil, rfl, ⟨.inl rfl, by rw [kp]; intro z; cases z⟩, ⟨.inr (.inl rfl), by rw [g29]; intro z; cases z⟩, ⟨.inr (.inr nS), by rw [gS9]; intro z; cases z⟩, ⟨.inr (.inr (sfree s1 nW1)), by rw [kW]; intro z; cases z⟩, nWS.symm⟩, ?_, ?_, fun e he => (by cases he), fun q z => z.2⟩
      · have e9 := up q _ (fun y => by rw [y, g1] at e; cases e) e
        exact ⟨⟨.inr (.inr z.1), by rw [e9]; intro z; cases z⟩, e9⟩
      · show 8 ≤ (List.replicate m z32).length
        rw [List.length_replicate]; omega
      · show (List.replicate m z32).length ≤ 400
        rw [List.length_replicate]; omega
theorem okT_snoc {l : List Int} {x : Int} (h : okT l = true) (a : 0 ≤ x) (b : x ≤ 32) : okT (l ++ [x]) = true := by
  unfold okT at *
  rw [List.all_append, h]
  unfold okc
  simp [a, b]
theorem okT_rep (n : Nat) : okT (List.replicate n 32) = true := List.all_eq_true.mpr fun x hx => by
  rw [List.eq_of_mem_replicate hx]
  rfl
end
end K5

set_option maxRecDepth 100000
set_option maxHeartbeats 4000000
/-! for i, x in enumerate(list, start=k) -/
namespace L2
open PySem hiding Tok code
open PySem.Spec PyProof.Rows
/-- the list at a as it stands at each turn, each item in a new pair, the count from k on -/
def Ites (K : PySem.W.Frag) (a : Addr) (k : Nat) : It :=
  ⟨fun i H => ∃ (xs : List V) (x : V), SqL K H a xs ∧ xs[i]? = some x, fun i H v H' => ∃ T x, v = .ref T ∧ H T = none ∧ H' = upd H T (.tup [.int ((k + i : Nat) : Int), x]) ∧ ∀ xs, SqL K H a xs → xs[i]? = some x, fun i H => ∃ xs : List V, SqL K H a xs ∧ xs.length ≤ i⟩
theorem turn_enumS {P : Program} {w : World} {K : PySem.W.Frag} {elts : List Expr} {kk : Nat} {tpos : Pos} (a e it : Addr) (k : Nat) :
    Turn P w K (.Tuple elts kk tpos) (Ites K a k) [e, it] e (fun i h => (∃ old, IsEnum h e it ((k + i : Nat) : Int) old) ∧ h.IsListIter it a i ∧ e ≠ it ∧ a ≠ it ∧ e ≠ a) where
  mem := by simp
  obj := fun i h st b hb => by
    obtain ⟨⟨old, he⟩, ⟨o, ho, hc, hd⟩, _⟩ := st
    have e' : b = e ∨ b = it := by simpa using hb
    rcases e' with z | z
    · rw [z]; exact ⟨_, he, fun v q => nomatch q⟩
    · rw [z]; exact ⟨o, ho, fun v q => by rw [hd] at q; cases q⟩
  keep := fun i h h' st k => let ⟨⟨old, he⟩, hi, hne⟩ := st; ⟨⟨old, k e (by simp) _ he⟩, hi.at fun o q => k it (by simp) o q, hne⟩
  item := by
    intro X hP hw hK hc i pins s σ H E I hf st hg
    subst hP hw hK
    obtain ⟨⟨old, he⟩, hit, hne, hni, hna⟩ := st
    obtain ⟨xs, x, hq, hx⟩ := hg
    obtain ⟨its, rv, p, hz⟩ := I.list hq
    obtain ⟨u, hu, ru⟩ := rv.get hx
    have hel : e < s.heap.objs.size := Heap.lt_size he
    have hil : it < s.heap.objs.size := by obtain ⟨_, q, _⟩ := hit; exact Heap.lt_size q
    have hisz : i < its.toArray.size := by
      have := (List.getElem?_eq_some_iff.mp hu).1
      simpa using this
    refine wpAny_pyNext_enum_itemC (Draws.list (prog := X.prog) (w := X.w) (A := X.A.in1) (show X.A.in1.handled = none from I.ok.hd hc) it a hni its.toArray) he ⟨hit, p.isList⟩ hisz hne (by simp [hne, hna]) fun x' h' tk hP ho hst hT hsz hk => ?_
    have ex : x' = u := by
      have : its.toArray[i]? = some x' := hP
      rw [List.getElem?_toArray, hu] at this
      exact (Option.some.inj this).symm
    subst ex
    refine ⟨_, rfl, wpAny_letOwnedTupleGo_enum (s := { s with heap := h', toks := tk + 1 }) ho fun h'' he' sb => ?_⟩
    have hT2 : h''.get? s.heap.objs.size = some { cls := .type "tuple", data := .seq #[.int ((k + i : Nat) : Int) tk, x'] } := (sb.2 _ (Nat.ne_of_gt hel)).trans hT
    have new : ObjOk X.prog X.w (upd H s.heap.objs.size (.tup [.int ((k + i : Nat) : Int), x])) h'' s.heap.objs.size (.tup [.int ((k + i : Nat) : Int), x]) :=
      ⟨by show 2 ≤ sizeLine; decide, [.int ((k + i : Nat) : Int) tk, x'], .cons ⟨_, rfl⟩ (.cons ru .nil), ⟨_, hT2, rfl, _, rfl⟩⟩
    have I1 : Inv X pins σ (upd H s.heap.objs.size (.tup [.int ((k + i : Nat) : Int), x])) { s with heap := h'', toks := tk + 1 } :=
      I.turnedNew (ch := [e, it]) (fun b ob hb q => (sb.2 b (fun z => hb (by simp [z]))).trans (hk b ob (fun z => hb (by simp [z])) (fun z => hb (by simp [z])) q)) hf (Nat.le_refl _) new
    refine ⟨.ref s.heap.objs.size, _, I1, rfl, ⟨_, x, rfl, I.hok.fresh (Nat.le_refl _), rfl, fun ys hy => by rw [I.list_inj hy hq]; exact hx⟩, ⟨⟨x', ?_⟩, hst.1.at fun o q => (sb.2 it (Ne.symm hne)).trans q, hne, hni, hna⟩, fun b hb => ?_⟩
    · have e1 : ((k + (i + 1) : Nat) : Int) = ((k + i : Nat) : Int) + 1 := by omega
      rw [e1]; exact he'
    · have hb' : b < s.heap.objs.size := by
        have e' : b = e ∨ b = it := by simpa using hb
        rcases e' with z | z
        · rw [z]; exact hel
        · rw [z]; exact hil
      rw [upd_ne (Nat.ne_of_lt hb')]
      exact (hf b hb).1
  done := by
    intro X hP hw hK hc i pins s σ H E I hf st hg
    subst hP hw hK
    obtain ⟨⟨old, he⟩, hit, hne, hni, hna⟩ := st
    obtain ⟨xs, hq, hx⟩ := hg
    obtain ⟨its, rv, p, hz⟩ := I.list hq
    obtain ⟨f0, f1, f2, f3, f4, f5⟩ := hf it (by simp)
    have hl := rv.length
    have D : Draws X.prog X.w X.A.in1 it [it, a] i (fun _ _ => True) (fun j h => j = i ∧ h.IsListIter it a i ∧ h.IsList a its.toArray) :=
      { live := fun _ _ st => let ⟨o, ho, _⟩ := st.2.1; ⟨o, ho⟩
        frame := fun _ _ _ st hk => ⟨st.1, st.2.1.at fun o e => hk it (by simp) o e, st.2.2.at fun o e => hk a (by simp) o e⟩
        item := fun j s Q E hj st hQ => absurd st.1 (Nat.ne_of_lt hj)
        done := fun s Q E st hE => wpAny_nextOf_list_end (show X.A.in1.handled = none from I.ok.hd hc) st.2.1 st.2.2 (by simp; omega) hE }
    exact wpAny_pyNext_enum_endD D he ⟨rfl, hit, p.isList⟩ fun h' eb => ⟨rfl, I.turned (t' := s.toks) (fun b o hb q => eb b o hb q) f0 f1 f3 f4 f5⟩
  self := fun A i s Q E st h => let ⟨⟨_, he⟩, _⟩ := st; wpAny_pyIter_enum he h
def iEnumS (K : PySem.W.Frag) (ta tk : TA) : TI := fun σ H R => ta σ H fun vs H1 => tk σ H1 fun zs H2 => ∃ (a : Addr) (xs : List V) (k : Nat), vs = [.ref a] ∧ zs = [.int (k : Nat)] ∧ k < 100000 ∧ SqL K H2 a xs ∧ R (Ites K a k) H2
theorem callWith_typeK {M : Model} {A : Around} {E : Value → Shared → Prop} {s : Shared} {pos : Pos} {T : String} {first : List Value} {args : List (Bool × Sem Value)} {kws : List (Option Str × Sem Value)} {Q : Value → Shared → Prop} (hplain : (args.any (·.1) || kws.any (·.1.isNone)) = false)
    (h : wpAny M A (evalArgs (.type T) true args kws) (fun a s₁ => wpAny M A (call (.type T) (first ++ a.pos) a.kw) Q E s₁) E s) :
    wpAny M A (callWith pos (.type T) first args kws) Q E s := by
  unfold callWith
  refine wpAny_bind (wpAny_holding (wpAny_mono h (fun a s₁ h₁ => wpAny_bind (wpAny_standAt ?_)) fun _ _ x => x))
  simp only [hplain]
  refine wpAny_bind (wpAny_pure ?_)
  exact wpAny_bind (wpAny_mono h₁ (fun r s₂ hr => wpAny_bind (wpAny_holding (wpAny_point (wpAny_pure hr)))) fun _ _ x => x)
theorem pi_enumS {X : Cx} {e e2 : Expr} {ta : TA} {tk : TE} {p pos tpos kpos : Pos} {elts : List Expr} {kk : Nat} (hg : Gl X "enumerate") (hm : X.mg "enumerate" = none) (ha : PA X [e] ta) (hk : PE X e2 tk) (hs : starEach [e] X.env = [(false, eval e X.env)] := by rfl) :
    PI X (.Tuple elts kk tpos) (.Call (.Name "enumerate" p) [e] [⟨some "start", e2, kpos⟩] pos) (iEnumS X.K ta (tCons tk tNil)) := by
  refine ⟨fun pins s σ H R I h => ?_⟩
  have hkw : PK X [⟨some "start", e2, kpos⟩] (tCons tk tNil) := pk_cons hk pk_nil
  refine wpAny_Call_Name_kw (ld_blt I hg hm boot_enumerate (callWith_typeK (by rw [hs] <;> rfl) (PyProof.Rows.evalArgs_kw2 (by rfl) (thn (ha.run pos pins s σ H _ I h) fun us s1 ⟨vs, H1, I1, r1, q1⟩ => ?_) hs)))
  refine thn (hkw.run pos pins s1 σ H1 _ I1 q1) fun ws s2 ⟨zs, H2, I2, rz, q2⟩ => ?_
  obtain ⟨a, xs, k, rfl, rfl, hk9, hq, q⟩ := q2
  cases r1 with
  | cons r rr =>
    cases rr
    cases r
    cases rz with
    | cons r2 rr2 =>
      cases rr2
      obtain ⟨tk9, rfl⟩ := r2
      obtain ⟨its, rv, p', hz⟩ := I2.list hq
      show wpAny _ _ (call (.type "enumerate") [.ref a] [(Str.ofString "start", .int ((k : Nat) : Int) tk9)]) _ _ _
      refine enum_begins_start (begins_list a its.toArray) p'.isList (by omega) (by omega) fun h' he hit hsz hk2 => wpAny_pyIter_enum he ?_
      have I3 : Inv X pins σ H2 { s2 with heap := h' } := I2.kept (t' := s2.toks) hk2
      have hlt : a < s2.heap.objs.size := by obtain ⟨_, q9, _⟩ := p'.isList; exact Heap.lt_size q9
      refine ⟨s2.heap.objs.size + 1, [s2.heap.objs.size + 1, s2.heap.objs.size], _, _, H2, rfl, I3, turn_enumS a (s2.heap.objs.size + 1) s2.heap.objs.size k, ⟨⟨.none, he⟩, ⟨_, hit, rfl, rfl⟩, Nat.succ_ne_self _, Nat.ne_of_lt hlt, Nat.ne_of_gt (Nat.lt_succ_of_lt hlt)⟩, fun b hb => ?_, q⟩
      have e' : b = s2.heap.objs.size + 1 ∨ b = s2.heap.objs.size := by simpa using hb
      have hle : s2.heap.objs.size ≤ b := by
        rcases e' with z | z
        · rw [z]; exact Nat.le_add_right _ _
        · rw [z]; exact Nat.le_refl _
      exact I2.fpOk hle (I2.hok.fresh hle)
section
variable {K : PySem.W.Frag} {a k : Nat} {xs : List V}
theorem walk_enumS : Walk (Ites K a k) xs.length (fun H => SqL K H a xs) (YPair (fun i => some (.int ((k + i : Nat) : Int))) (fun i => xs[i]?)) := by
  refine ⟨fun i _ hi q => ⟨xs, xs[i], q, by simp [hi]⟩, fun _ q => ⟨xs, q, Nat.le_refl _⟩, fun i H v H' _ q y => ?_⟩
  obtain ⟨T, x, h1, h2, h3, h4⟩ := y
  exact ⟨T, .int ((k + i : Nat) : Int), x, h1, h2, h3, rfl, h4 xs q⟩
end
section
variable {J J1 : It} {n n1 : Nat} {G G1 : Hp → Prop} {Y Y1 : Nat → Hp → V → Hp → Prop}
/-- two clauses: the outer one -/
theorem lc2_it (w : Walk J n G Y) {g g1 : TG} {tt tt1 : TT} {wi1 : TI} {te : TE} {vs vs1 : List Nat} {σ : St} {H1 : Hp} {D : Addr} {Qd : Hp → Prop} (Pv : Nat → Hp → Prop) (h0 : Pv 0 (upd H1 D (.lst []))) (hG : ∀ i H, i ≤ n → Pv i H → G H)
    (hs : ∀ i x H H', i < n → Pv i H → Y i H x H' → g x (wipe σ vs) H' fun σ2 H2 => wipe σ2 vs = wipe σ vs ∧ tt σ2 H2 fun b H3 =>
      if b = true then wi1 σ2 H3 fun J1 H4 => ∃ W1 : Nat → Nat → Hp → Prop, (∃ m, W1 0 m H4) ∧ ∀ j k H, W1 j k H →
        (J1.stop j H ∧ Pv (i + 1) H) ∨ (J1.go j H ∧ ∃ Nx1 : Hp → Prop, (∀ H', Nx1 H' → ∃ k', k' < k ∧ W1 (j + 1) k' H') ∧ ∀ x H', J1.yld j H x H' → g1 x (wipe σ2 vs1) H' fun σ3 H5 => wipe σ3 vs1 = wipe σ2 vs1 ∧ tt1 σ3 H5 fun b H6 =>
          if b = true then te σ3 H6 fun y H7 => ∃ acc, H7 D = some (.lst acc) ∧ acc.length < sizeLine ∧ Nx1 (upd H7 D (.lst (acc ++ [y]))) else Nx1 H6)
      else Pv (i + 1) H3) (hd : ∀ H, Pv n H → Qd H) :
    ∃ W : Nat → Nat → Hp → Prop, (∃ m, W 0 m (upd H1 D (.lst []))) ∧ ∀ i m H, W i m H →
      (J.stop i H ∧ Qd H) ∨ (J.go i H ∧ ∃ Nx : Hp → Prop, (∀ H', Nx H' → ∃ m', m' < m ∧ W (i + 1) m' H') ∧ ∀ x H', J.yld i H x H' → g x (wipe σ vs) H' fun σ2 H2 => wipe σ2 vs = wipe σ vs ∧ tt σ2 H2 fun b H3 =>
        if b = true then wi1 σ2 H3 fun J1 H4 => ∃ W1 : Nat → Nat → Hp → Prop, (∃ m, W1 0 m H4) ∧ ∀ j k H, W1 j k H →
          (J1.stop j H ∧ Nx H) ∨ (J1.go j H ∧ ∃ Nx1 : Hp → Prop, (∀ H', Nx1 H' → ∃ k', k' < k ∧ W1 (j + 1) k' H') ∧ ∀ x H', J1.yld j H x H' → g1 x (wipe σ2 vs1) H' fun σ3 H5 => wipe σ3 vs1 = wipe σ2 vs1 ∧ tt1 σ3 H5 fun b H6 =>
            if b = true then te σ3 H6 fun y H7 => ∃ acc, H7 D = some (.lst acc) ∧ acc.length < sizeLine ∧ Nx1 (upd H7 D (.lst (acc ++ [y]))) else Nx1 H6)
        else Nx H3) := by
  refine ⟨fun i m H => m = n - i ∧ i ≤ n ∧ Pv i H, ⟨n, by simp, Nat.zero_le _, h0⟩, ?_⟩
  rintro i m H ⟨rfl, hi, p⟩
  have q := hG i H hi p
  by_cases hlt : i < n
  · refine .inr ⟨w.goes i H hlt q, Pv (i + 1), fun H' p' => ⟨n - (i + 1), by omega, rfl, hlt, p'⟩, fun x H' y => hs i x H H' hlt p (w.yields i H x H' hlt q y)⟩
  · have e : i = n := by omega
    subst e
    exact .inl ⟨w.stops H q, hd H p⟩
/-- and the inner one -/
theorem lc2_in (w : Walk J1 n1 G1 Y1) {g1 : TG} {tt1 : TT} {te : TE} {vs1 : List Nat} {σ2 : St} {H4 : Hp} {D : Addr} {Nx : Hp → Prop} (Pv1 : Nat → Hp → Prop) (h0 : Pv1 0 H4) (hG : ∀ i H, i ≤ n1 → Pv1 i H → G1 H)
    (hs : ∀ j x H H', j < n1 → Pv1 j H → Y1 j H x H' → g1 x (wipe σ2 vs1) H' fun σ3 H5 => wipe σ3 vs1 = wipe σ2 vs1 ∧ tt1 σ3 H5 fun b H6 =>
      if b = true then te σ3 H6 fun y H7 => ∃ acc, H7 D = some (.lst acc) ∧ acc.length < sizeLine ∧ Pv1 (j + 1) (upd H7 D (.lst (acc ++ [y]))) else Pv1 (j + 1) H6) (hd : ∀ H, Pv1 n1 H → Nx H) :
    ∃ W1 : Nat → Nat → Hp → Prop, (∃ m, W1 0 m H4) ∧ ∀ j k H, W1 j k H →
      (J1.stop j H ∧ Nx H) ∨ (J1.go j H ∧ ∃ Nx1 : Hp → Prop, (∀ H', Nx1 H' → ∃ k', k' < k ∧ W1 (j + 1) k' H') ∧ ∀ x H', J1.yld j H x H' → g1 x (wipe σ2 vs1) H' fun σ3 H5 => wipe σ3 vs1 = wipe σ2 vs1 ∧ tt1 σ3 H5 fun b H6 =>
        if b = true then te σ3 H6 fun y H7 => ∃ acc, H7 D = some (.lst acc) ∧ acc.length < sizeLine ∧ Nx1 (upd H7 D (.lst (acc ++ [y]))) else Nx1 H6) := by
  refine ⟨fun i m H => m = n1 - i ∧ i ≤ n1 ∧ Pv1 i H, ⟨n1, by simp, Nat.zero_le _, h0⟩, ?_⟩
  rintro i m H ⟨rfl, hi, p⟩
  have q := hG i H hi p
  by_cases hlt : i < n1
  · refine .inr ⟨w.goes i H hlt q, Pv1 (i + 1), fun H' p' => ⟨n1 - (i + 1), by omega, rfl, hlt, p'⟩, fun x H' y => hs i x H H' hlt p (w.yields i H x H' hlt q y)⟩
  · have e : i = n1 := by omega
    subst e
    exact .inl ⟨w.stops H q, hd H p⟩
end
end L2

set_option maxRecDepth 100000
set_option maxHeartbeats 4000000
/-! the blocks of rows of records -/
namespace K7
open PySem hiding Tok code
open PySem.Spec PyProof.Rows GD K1
open L2 hiding rest
open K6 (Rec RecAt RecSm wR spWRec)
open K4 (Blks BlkV encR iv)
abbrev sBlk : Stmt := topS 66
theorem szle {n : Nat} (h : n ≤ 10000) : n ≤ sizeLine := Nat.le_trans h (by decide)
theorem szlt {n : Nat} (h : n ≤ 10000) : n < sizeLine := Nat.lt_of_le_of_lt h (by decide)
/-- rows of records -/
def LsR (H : Hp) : List V → List Rec → Prop := Paired fun v x => ∃ r, v = .ref r ∧ RecAt H r x
theorem RecAt.keep {H H' : Hp} (k : ∀ q xs, H q = some (.tup xs) → H' q = some (.tup xs)) {r : Addr} {x : Rec} (h : RecAt H r x) : RecAt H' r x := by
  obtain ⟨a, h1, h2⟩ := h
  exact ⟨a, k _ _ h1, fun l e => k _ _ (h2 l e)⟩
theorem pairImp {α β : Type} {R R' : α → β → Prop} {l : List α} {m : List β} (k : ∀ a b, R a b → R' a b) (h : Paired R l m) : Paired R' l m := by
  induction h with
  | nil => exact .nil
  | cons a _ ih => exact .cons (k _ _ a) ih
theorem LsR.keep {H H' : Hp} (k : ∀ q xs, H q = some (.tup xs) → H' q = some (.tup xs)) {vs : List V} {xs : List Rec} (h : LsR H vs xs) : LsR H' vs xs :=
  pairImp (fun _ _ ⟨r, e, h⟩ => ⟨r, e, RecAt.keep k h⟩) h
theorem pairLen {α β : Type} {R : α → β → Prop} {l : List α} {m : List β} (h : Paired R l m) : l.length = m.length := by
  induction h with
  | nil => rfl
  | cons _ _ ih => rw [List.length_cons, List.length_cons, ih]
theorem pairAt {α β : Type} {R : α → β → Prop} {l : List α} {m : List β} (h : Paired R l m) {i : Nat} {a : α} (e : l[i]? = some a) : ∃ b, m[i]? = some b ∧ R a b := by
  induction h generalizing i with
  | nil => simp at e
  | cons a _ ih =>
    cases i with
    | zero =>
      rw [List.getElem?_cons_zero] at e ⊢
      cases e
      exact ⟨_, rfl, a⟩
    | succ i =>
      rw [List.getElem?_cons_succ] at e ⊢
      exact ih e
theorem pairApp {α β : Type} {R : α → β → Prop} {l l' : List α} {m m' : List β} (h : Paired R l m) (h' : Paired R l' m') : Paired R (l ++ l') (m ++ m') := by
  induction h with
  | nil => exact h'
  | cons a _ ih => exact .cons a ih
/-- a row's blocks, all blocks -/
def tL (x : Rec) : List Nat := (wR x).cps.toList
def rowB (n : Nat) (x : Rec) : List (List Int) := encR (n : Nat) (tL x)
def blkL : Nat → List Rec → List (List Int)
  | _, [] => []
  | n, x :: r => rowB n x ++ blkL (n + 1) r
theorem blkL_app : ∀ (n : Nat) (a b : List Rec), blkL n (a ++ b) = blkL n a ++ blkL (n + a.length) b
  | n, [], b => rfl
  | n, x :: a, b => by
    rw [List.cons_append, blkL, blkL_app (n + 1) a b, blkL, List.append_assoc, List.length_cons, show n + 1 + a.length = n + (a.length + 1) by omega]
theorem blkL_snoc {n i : Nat} {xs : List Rec} {x : Rec} (h : xs[i]? = some x) : blkL n (xs.take (i + 1)) = blkL n (xs.take i) ++ rowB (n + i) x := by
  have hi := (List.getElem?_eq_some_iff.mp h).1
  rw [List.take_add_one, h]
  show blkL n (xs.take i ++ [x]) = _
  rw [blkL_app, List.length_take, Nat.min_eq_left (by omega)]
  show _ ++ (rowB (n + i) x ++ []) = _
  rw [List.append_nil]
/-- records that may be drawn -/
def RS (x : Rec) : Prop := RecSm x ∧ (tL x).length ≤ 720
theorem rowB_len (n : Nat) {x : Rec} (h : RS x) : (rowB n x).length ≤ 30 := by
  unfold rowB encR
  rw [List.length_map, List.length_range]
  unfold K4.cnt
  have := h.2
  omega
theorem blkL_len : ∀ (n : Nat) {xs : List Rec}, (∀ x ∈ xs, RS x) → (blkL n xs).length ≤ 30 * xs.length
  | n, [], _ => by show 0 ≤ _; omega
  | n, x :: r, h => by
    have h1 := rowB_len n (h x (List.mem_cons_self ..))
    have h2 := blkL_len (n + 1) (xs := r) fun y hy => h y (List.mem_cons_of_mem _ hy)
    rw [blkL, List.length_append, List.length_cons]
    omega
theorem S_tL (x : Rec) : S (tL x) = wR x := S_of _
theorem rowB_32 {n : Nat} {x : Rec} {b : List Int} (h : b ∈ rowB n x) : b.length = 32 := by
  unfold rowB encR at h
  obtain ⟨k, _, rfl⟩ := List.mem_map.mp h
  exact K4.enc_len (K4.piece_len (tL x) k)
theorem blk_neD {D q : Addr} {H : Hp} {us : List V} {bs : List (List Int)} {b : List Int} (hD : H D = some (.lst us)) (bl : K4.BlkD D H us bs) (hq : H q = some (.lst (iv b))) (hb : b ≠ []) : q ≠ D := fun z => by
  rw [z, hD] at hq
  injection hq with hq
  injection hq with hq
  cases b with
  | nil => exact hb rfl
  | cons x r =>
    subst hq
    cases bl with
    | cons a _ =>
      obtain ⟨q, e, _⟩ := a
      cases e
theorem blks_up {H H' : Hp} {ws : List V} {bs : List (List Int)} (k : ∀ q b, b ≠ [] → H q = some (.lst (iv b)) → H' q = some (.lst (iv b))) (hb : ∀ b ∈ bs, b ≠ []) (h : Blks H ws bs) : Blks H' ws bs := by
  induction h with
  | nil => exact .nil
  | cons a _ ih =>
    obtain ⟨q, e, h⟩ := a
    exact .cons ⟨q, e, k _ _ (hb _ (List.mem_cons_self ..)) h⟩ (ih fun b h => hb b (List.mem_cons_of_mem _ h))
section
variable {P : Program} {w : World} {K : PySem.W.Frag} {mg : Str → Option Value} {base : Heap}
def spBlk : L2.Sp := fun vs H Q _ => ∃ (a : Addr) (ws : List V) (xs : List Rec) (n : Nat), vs = [.ref a, .int (n : Nat)] ∧ H a = some (.lst ws) ∧ LsR H ws xs ∧ (∀ x ∈ xs, RS x) ∧ xs.length ≤ 200 ∧ n ≤ 1000 ∧
  ∀ H' D us, Same H H' → H D = none → H' D = some (.lst us) → Blks H' us (blkL n xs) → K4.Frs H us → Q (.ref D) H'
theorem scBlk : FnScope ["rows", "first", "number", "record", "block"] ["rows", "first"] (defScope sBlk) := ⟨rfl, rfl, rfl, by decide +kernel, rfl, by decide +kernel, by decide +kernel⟩
theorem ok_blk {f f1 f2 : Addr} {fd fd1 fd2 : FuncData} (F : Fun K "blocks_of" "blocks_of" sBlk f fd) (T3 : K5.Txt3 mg)
    (FE : K4.FO P w K mg base CX0 2 "encode_record" ["number", "text"] K4.spEncR f1 fd1) (FW : K6.FO P w K mg base CX0 2 "write_record" ["record"] spWRec f2 fd2) : FnOk P w K mg base CX0 3 f fd ["rows", "first"] spBlk := by
  have sc := scBlk
  refine F.ok sc (fun vs H Q E h => ?_) (fun cdv A outer s H vs Q E hr h => ?_)
  · obtain ⟨a, ws, xs, n, rfl, _⟩ := h
    rfl
  · obtain ⟨a, ws, xs, n, rfl, ha, hx, hs, hl, hn, q⟩ := h
    refine ⟨_, (pss_one (ps_ret (pe_lc2 (own := [("number", 2), ("record", 3), ("block", 4)]) (vs1 := [4]) rfl sc.nd (pi_enumS rfl T3.enumerate (pa_cons (pv 0) pa_nil) (pv 1)) (blkOk_by (own := [("number", 2), ("record", 3), ("block", 4)]) (N := ["rows", "first", "number", "record", "block"]) (sc := defScope sBlk) (by decide +kernel)) (by decide) (fun _ _ _ _ _ => (show PG _ _ (gTup K 2 _) from pg_tup rfl (pgs_cons (pg_name (i := 2) sc.nd rfl (Or.inl rfl)) (pgs_cons (pg_name (i := 3) sc.nd rfl (Or.inl rfl)) pgs_nil)))) (fun _ _ _ _ _ => pts_nil) (fun _ _ _ _ _ => (show PI _ _ _ (iList K _) from (pi_list (pe_call FE.ok hr (by rfl) FE.m FE.kp FE.b .nil pass0 (pa_cons (pv 2) (pa_cons (pe_call FW.ok hr (by rfl) FW.m FW.kp FW.b .nil pass0 (pa_cons (pv 3) pa_nil)) pa_nil)))))) (fun _ _ _ _ _ => (pg_name (i := 4) sc.nd rfl (Or.inl rfl))) (fun _ _ _ _ _ => pts_nil) (fun _ _ _ _ _ => (pv 4))))), ?_⟩
    refine ⟨_, rfl, _, rfl, a, ws, n, rfl, rfl, by omega, SqL.of ha, fun D nD => ?_⟩
    have lw := pairLen hx
    refine lc2_it (walk_enumS (K := K) (a := a) (k := n) (xs := ws)) (fun i H' => ∃ us, Same H H' ∧ H' D = some (.lst us) ∧ K4.BlkD D H' us (blkL n (xs.take i)) ∧ K4.Frs H us) ⟨[], Same.lst (Same.refl _) nD, upd_same, .nil, fun v h => (by cases h)⟩ (fun i H' _ pv => ?_) (fun i v H2 H3 hi pv y => ?_) (fun H2 pv => ?_)
    · obtain ⟨us, s2, _, _, _⟩ := pv
      exact SqL.of (s2 _ _ ha)
    · obtain ⟨us, s2, eD, bl, fr⟩ := pv
      obtain ⟨Tq, v1, v2, rfl, nT, rfl, h1, h2⟩ := y
      cases h1
      obtain ⟨x, hxi, r, rfl, rx⟩ := pairAt hx h2
      have rs := hs x (List.mem_of_getElem? hxi)
      have s3 : Same H (upd H2 Tq (.tup [.int ((n + i : Nat) : Int), .ref r])) := fun b o e => by rw [upd_ne (ne_of_none (s2 b o e) nT)]; exact s2 b o e
      have eD3 : (upd H2 Tq (.tup [.int ((n + i : Nat) : Int), .ref r])) D = some (.lst us) := by rw [upd_ne (ne_of_none eD nT)]; exact eD
      have bl3 : K4.BlkD D (upd H2 Tq (.tup [.int ((n + i : Nat) : Int), .ref r])) us (blkL n (xs.take i)) := bl.up fun q xs _ e => by rw [upd_ne (ne_of_none e nT)]; exact e
      refine ⟨Tq, _, rfl, SqT.of upd_same, rfl, _, _, rfl, _, _, rfl, rfl, rfl, ?_⟩
      generalize upd H2 Tq (.tup [.int ((n + i : Nat) : Int), .ref r]) = H3 at *
      refine ⟨_, rfl, _, rfl, r, x, rfl, RecAt.keep (fun q xs e => s3 _ _ e) rx, rs.1, fun H4 s4 => ?_⟩
      refine ⟨((n + i : Nat) : Int), tL x, by rw [S_tL]; rfl, rs.2, fun H5 D4 w4 s5 n4 e4 b4 f4 => ?_⟩
      refine ⟨D4, rfl, ⟨_, SqL.of e4⟩, ?_⟩
      have s35 : Same H3 H5 := fun b o e => s5 _ _ (s4 _ _ e)
      have l4 : w4.length = (rowB (n + i) x).length := pairLen b4
      have nn : D4 ≠ D := fun z => by rw [z, s4 _ _ eD3] at n4; cases n4
      refine lc2_in (walk_list (K := K) (a := D4) (xs := w4)) (fun j H' => ∃ us, Same H H' ∧ H' D = some (.lst us) ∧ K4.BlkD D H' us (blkL n (xs.take i) ++ (rowB (n + i) x).take j) ∧ H' D4 = some (.lst w4) ∧ Blks H' w4 (rowB (n + i) x) ∧ K4.Frs H us)
        ⟨us, fun b o e => s35 _ _ (s3 _ _ e), s35 _ _ eD3, by rw [List.take_zero, List.append_nil]; exact bl3.up fun q xs _ e => s35 _ _ e, e4, b4, fr⟩ (fun j H' _ pv => ?_) (fun j v H6 H7 hj pv y => ?_) (fun H6 pv => ?_)
      · obtain ⟨_, _, _, _, e, _⟩ := pv
        exact SqL.of e
      · obtain ⟨us, s6, eD6, bl6, e46, b46, fr6⟩ := pv
        obtain ⟨rfl, hv⟩ := y
        obtain ⟨b, hb, q, rfl, hq⟩ := pairAt b46 hv
        have hb32 : b ≠ [] := fun z => by
          have := rowB_32 (List.mem_of_getElem? hb)
          rw [z] at this
          cases this
        have nq : q ≠ D := blk_neD eD6 bl6 hq hb32
        have ul := pairLen bl6
        have e30 := rowB_len (n + i) rs
        have e31 := blkL_len n (xs := xs.take i) fun y hy => hs y (List.mem_of_mem_take hy)
        have e32 : (xs.take i).length ≤ xs.length := by rw [List.length_take]; omega
        refine ⟨rfl, _, rfl, us, eD6, szlt ?_, us ++ [.ref q], fun z o e => by rw [upd_ne (ne_of_none e nD)]; exact s6 _ _ e, upd_same, ?_, by rw [upd_ne nn]; exact e46, ?_, fun v hv => ?_⟩
        · rw [ul, List.length_append, List.length_take]; omega
        · have tk : (rowB (n + i) x).take (j + 1) = (rowB (n + i) x).take j ++ [b] := by rw [List.take_add_one, hb]; rfl
          rw [tk, ← List.append_assoc]
          exact K4.BlkD.snoc (bl6.up fun q xs n e => by rw [upd_ne n]; exact e) nq (by rw [upd_ne nq]; exact hq)
        · exact blks_up (fun q b hb e => by rw [upd_ne (blk_neD eD6 bl6 e hb)]; exact e) (fun b hb => by
            have := rowB_32 hb
            exact fun z => by rw [z] at this; cases this) b46
        · rcases List.mem_append.mp hv with hv | hv
          · exact fr6 v hv
          · obtain ⟨q', e', n'⟩ := f4 _ (List.mem_of_getElem? ‹w4[j]? = some (V.ref q)›)
            cases e'
            rw [List.mem_singleton.mp hv]
            exact ⟨q, rfl, K4.sfree (fun b o e => s4 _ _ (s3 _ _ e)) n'⟩
      · obtain ⟨us, s6, eD6, bl6, e46, b46, fr6⟩ := pv
        rw [l4, List.take_length] at bl6
        exact ⟨us, s6, eD6, by rw [blkL_snoc hxi]; exact bl6, fr6⟩
    · obtain ⟨us, s2, eD, bl, fr⟩ := pv
      rw [lw, List.take_length] at bl
      exact q _ D us s2 nD eD bl.blks fr
end
end K7

set_option maxRecDepth 100000
set_option maxHeartbeats 4000000
/-! what a disk keeps of the rest -/
namespace K7
open PySem hiding Tok code
open PySem.Spec PyProof.Rows GD K1
open L2 hiding rest
open K6 (Rec RecAt RecSm wR spWRec recV recA T2 ST)
open K4 (Blks BlkV encR iv)
open K5 (DS DA Kz grow rdM stepS tnS cutM flM)
/-- what may lie in a disk's zone -/
def okO : HO → Prop
  | .tbl _ => False
  | .tup xs => ∃ (n : Int) (q : Addr), xs = [.int n, .ref q]
  | _ => True
def NT (Z : Addr → Prop) (H : Hp) : Prop := ∀ q, Z q → ∃ o, H q = some o ∧ okO o
structure DL (C PN PV : Addr) (Z : Addr → Prop) (H : Hp) (p : Addr) (s : DS) : Prop where
  da : DA C Z H p s
  nt : NT Z H
  t2 : T2 PN PV H
def Fr (Z : Addr → Prop) (H : Hp) (Z' : Addr → Prop) (H' : Hp) : Prop := ∀ q o, ¬ Z q → (∀ ps, o ≠ .tbl ps) → H q = some o → H' q = some o ∧ ¬ Z' q
theorem Fr.refl (Z : Addr → Prop) (H : Hp) : Fr Z H Z H := fun _ _ z _ e => ⟨e, z⟩
theorem Fr.trans {Z Z1 Z2 : Addr → Prop} {H H1 H2 : Hp} (a : Fr Z H Z1 H1) (b : Fr Z1 H1 Z2 H2) : Fr Z H Z2 H2 := fun q o z n e => b q o (a q o z n e).2 n (a q o z n e).1
theorem Fr.same {Z : Addr → Prop} {H H' : Hp} (k : Same H H') : Fr Z H Z H' := fun q o z _ e => ⟨k q o e, z⟩
theorem Fr.st {Z : Addr → Prop} {PN PV : Addr} {H H' : Hp} (k : ST PN PV H H') : Fr Z H Z H' := fun q o z n e => ⟨k.k q o n e, z⟩
theorem DL.no {C PN PV : Addr} {Z : Addr → Prop} {H : Hp} {p : Addr} {s : DS} (h : DL C PN PV Z H p s) {q : Addr} (e : H q = none) : ¬ Z q := fun z => h.da.al q z e
theorem DL.st {C PN PV : Addr} {Z : Addr → Prop} {H H' : Hp} {p : Addr} {s : DS} (h : DL C PN PV Z H p s) (k : ST PN PV H H') : DL C PN PV Z H' p s := by
  have key : ∀ q o, Z q → H q = some o → H' q = some o := fun q o z e => by
    obtain ⟨o', e', ok⟩ := h.nt q z
    rw [e] at e'
    cases e'
    exact k.k q o (fun ps z => by rw [z] at ok; exact ok) e
  exact ⟨h.da.same key, fun q z => let ⟨o, e, ok⟩ := h.nt q z; ⟨o, key q o z e, ok⟩, k.t⟩
theorem DL.same {C PN PV : Addr} {Z : Addr → Prop} {H H' : Hp} {p : Addr} {s : DS} (h : DL C PN PV Z H p s) (k : Same H H') : DL C PN PV Z H' p s := h.st (h.t2.st k)
/-- the zone without what is no disk's -/
def trim (Z : Addr → Prop) (H : Hp) : Addr → Prop := fun q => Z q ∧ ∃ o, H q = some o ∧ okO o
theorem DA.trim {C : Addr} {Z : Addr → Prop} {H : Hp} {p : Addr} {s : DS} (h : DA C Z H p s) : DA C (trim Z H) H p s := by
  obtain ⟨dx, S, W, v, vs, us, h1, h2, h3, h4, h5, h6, h7, z1, z2, z3, z4, n⟩ := h.ex
  have kl : ∀ q b, Z q → b.length = 32 → H q = some (.lst (K5.iv b)) → K7.trim Z H q ∧ H q = some (.lst (K5.iv b)) := fun q b z _ e => ⟨⟨z, _, e, trivial⟩, e⟩
  refine ⟨⟨dx, S, W, v, vs, us, h1, h2, h3, K5.pair_imp h4 fun a b => K5.BkR.up kl, h5, K5.pair_imp h6 fun a b => ?_, ?_, ⟨z1, _, h1, trivial⟩, ⟨z2, _, h2, trivial⟩, ⟨z3, _, h3, trivial⟩, ⟨z4, _, h5, trivial⟩, n⟩, h.lo, h.hi, h.pl, fun q z e => h.al q z.1 e⟩
  · rintro ⟨t, q, e1, y1, g1, y2, g2, l⟩
    exact ⟨t, q, e1, ⟨y1, _, g1, _, _, rfl⟩, g1, ⟨y2, _, g2, trivial⟩, g2, l⟩
  · revert h7
    cases s.sc with
    | none => exact fun z => z
    | some x =>
      obtain ⟨m, t⟩ := x
      exact fun ⟨t1, t2, e, y1, g1, y2, n1, n2, g2, b⟩ => ⟨t1, t2, e, ⟨y1, _, g1, _, _, rfl⟩, g1, ⟨y2, _, g2, trivial⟩, n1, n2, g2, b⟩
theorem NT.tab {Z : Addr → Prop} {H : Hp} (n : NT Z H) {P : Addr} {ps : List Addr} {o : HO} (e : H P = some o) (bad : ¬ okO o) : ¬ Z P := fun z => by
  obtain ⟨o', e', ok⟩ := n P z
  rw [e] at e'
  cases e'
  exact bad ok
theorem DL.kz {C PN PV : Addr} {Z : Addr → Prop} {H H' : Hp} {p : Addr} {s s' : DS} (h : DL C PN PV Z H p s) (k : Kz Z H H') (da : DA C (grow Z H H') H' p s') : ∃ Z', DL C PN PV Z' H' p s' ∧ Fr Z H Z' H' := by
  have tab : ∀ P, GxR.TabG H P → GxR.TabG H' P := fun P ⟨ps, e, r⟩ => by
    refine ⟨ps, k P _ ?_ e, r⟩
    exact h.nt.tab (ps := []) e fun z => z
  refine ⟨trim (grow Z H H') H', ⟨DA.trim da, fun q z => z.2, ⟨tab _ h.t2.n, tab _ h.t2.v⟩⟩, fun q o z n e => ⟨k q o z e, fun y => ?_⟩⟩
  rcases y.1.1 with y | y
  · exact z y
  · rw [e] at y; cases y
theorem recV_bad (a : Addr) (x : Rec) : ¬ okO (.tup (recV a x)) := by
  rintro ⟨n, q, e⟩
  cases x <;> cases e
theorem recA_bad {x : Rec} {l : List V} (h : recA x = some l) : ¬ okO (.tup l) := by
  rintro ⟨n, q, e⟩
  subst e
  cases x with
  | ent xs =>
    injection h with h
    match xs, h with
    | [], h => cases h
    | y :: r, h => cases h
  | txt m t => cases h
  | rem m => cases h
  | upd n => cases h
  | call hh n m f ad =>
    injection h with h
    match ad, h with
    | [], h => exact absurd (congrArg List.length h) (by simp)
    | [y], h => exact absurd (congrArg List.length h) (by simp)
    | [y, z], h =>
      have h2 := (List.cons.inj (List.cons.inj h).2).1
      cases z <;> cases h2
    | y :: z :: u :: r, h => exact absurd (congrArg List.length h) (by simp)
theorem RecAt.fr {Z Z' : Addr → Prop} {H H' : Hp} (n : NT Z H) (f : Fr Z H Z' H') {r : Addr} {x : Rec} (h : RecAt H r x) : RecAt H' r x := by
  obtain ⟨a, h1, h2⟩ := h
  exact ⟨a, (f r _ (n.tab (ps := []) h1 (recV_bad a x)) (fun ps z => by cases z) h1).1, fun l e => (f a _ (n.tab (ps := []) (h2 l e) (recA_bad e)) (fun ps z => by cases z) (h2 l e)).1⟩
theorem LsR.fr {Z Z' : Addr → Prop} {H H' : Hp} (n : NT Z H) (f : Fr Z H Z' H') {vs : List V} {xs : List Rec} (h : LsR H vs xs) : LsR H' vs xs :=
  pairImp (fun _ _ ⟨r, e, h⟩ => ⟨r, e, RecAt.fr n f h⟩) h
theorem LsR.st {PN PV : Addr} {H H' : Hp} (k : ST PN PV H H') {vs : List V} {xs : List Rec} (h : LsR H vs xs) : LsR H' vs xs :=
  LsR.keep (fun q xs e => k.k q _ (fun ps z => by cases z) e) h
/-- writes, one after the other: a disk behind them, or behind the cut amid them -/
def wrM : DS → List (Nat × List Int) → DS ⊕ DS
  | s, [] => .inr s
  | s, e :: r => match stepS s with
    | none => .inl (cutM s (tnS s))
    | some s' => wrM ⟨s'.st, s'.wa ++ [e], s'.cuts, s'.sc⟩ r
def fluM (s : DS) : DS ⊕ DS := match stepS s with
  | none => .inl (cutM s (tnS s))
  | some s' => .inr (flM s')
theorem step_tn {s s' : DS} (h : stepS s = some s') : tnS s' = tnS s ∨ tnS s' = [] := by
  unfold stepS at h
  unfold tnS
  cases e : s.sc with
  | none => rw [e] at h; cases h; rw [e]; exact .inl rfl
  | some x =>
    obtain ⟨m, tn⟩ := x
    rw [e] at h
    cases m with
    | zero => cases h
    | succ m => cases h; exact .inl rfl
theorem wrM_snoc : ∀ (l : List (Nat × List Int)) (s : DS) (e : Nat × List Int), wrM s (l ++ [e]) = match wrM s l with
    | .inl x => .inl x
    | .inr s' => match stepS s' with
      | none => .inl (cutM s' (tnS s'))
      | some s2 => .inr ⟨s2.st, s2.wa ++ [e], s2.cuts, s2.sc⟩
  | [], s, e => by
    show (match stepS s with | none => _ | some s' => _) = _
    cases h : stepS s with
    | none => simp [wrM, h]
    | some s2 => simp [wrM, h]
  | x :: l, s, e => by
    rw [List.cons_append, wrM, wrM]
    cases h : stepS s with
    | none => rfl
    | some s2 => exact wrM_snoc l _ e
theorem wrM_st : ∀ (l : List (Nat × List Int)) (s s' : DS), wrM s l = .inr s' → s'.st = s.st ∧ s'.wa = s.wa ++ l ∧ s'.cuts = s.cuts ∧ (tnS s').length ≤ (tnS s).length
  | [], s, s', h => by cases h; exact ⟨rfl, (List.append_nil _).symm, rfl, Nat.le_refl _⟩
  | e :: r, s, s', h => by
    rw [wrM] at h
    cases h2 : stepS s with
    | none => rw [h2] at h; cases h
    | some s2 =>
      rw [h2] at h
      obtain ⟨a1, a2, a3, a4⟩ := wrM_st r _ _ h
      obtain ⟨b1, b2, b3⟩ := K5.step_st h2
      refine ⟨a1.trans b1, by rw [a2]; show s2.wa ++ [e] ++ r = _; rw [b2, List.append_assoc]; rfl, a3.trans b3, Nat.le_trans a4 ?_⟩
      have : tnS (⟨s2.st, s2.wa ++ [e], s2.cuts, s2.sc⟩ : DS) = tnS s2 := rfl
      rw [this]
      rcases step_tn h2 with z | z
      · rw [z]; exact Nat.le_refl _
      · rw [z]; exact Nat.zero_le _
theorem wrM_none : ∀ (l : List (Nat × List Int)) (s : DS), s.sc = none → wrM s l = .inr ⟨s.st, s.wa ++ l, s.cuts, none⟩
  | [], s, h => by rw [List.append_nil, ← h]; rfl
  | e :: r, s, h => by
    have hs : stepS s = some s := by unfold stepS; rw [h]
    rw [wrM, hs]
    have := wrM_none r (⟨s.st, s.wa ++ [e], s.cuts, s.sc⟩ : DS) h
    rw [List.append_assoc] at this
    exact this
theorem fluM_none {s : DS} (h : s.sc = none) : fluM s = .inr (flM s) := by
  have hs : stepS s = some s := by unfold stepS; rw [h]
  unfold fluM
  rw [hs]
end K7

set_option maxRecDepth 100000
set_option maxHeartbeats 4000000
/-! logs: what lies where; the plain methods -/
namespace K7
open PySem hiding Tok code
open PySem.Spec PyProof.Rows GD K1
open L2 hiding rest
open K6 (Rec RecAt RecSm wR spWRec recV recA T2 ST)
open K4 (Blks BlkV encR iv)
open K5 (DS DA Kz grow rdM stepS tnS cutM flM MO TxD TxP passE)
abbrev cLog : Stmt := topS 65
abbrev mLInit : Stmt := inClass cLog 0
abbrev mRecs : Stmt := inClass cLog 1
abbrev mApp : Stmt := inClass cLog 2
abbrev mRoom : Stmt := inClass cLog 3
abbrev mSync : Stmt := inClass cLog 4
abbrev mFree : Stmt := inClass cLog 5
abbrev mIsOpen : Stmt := inClass cLog 6
abbrev mChk : Stmt := inClass cLog 7
def lF (p R : Addr) (u c : Nat) : List (Str × V) := [("disk", .ref p), ("rows", .ref R), ("used", .int (u : Nat)), ("cuts", .int (c : Nat))]
theorem lF_d {p R : Addr} {u c : Nat} : (lF p R u c).lookup ("disk" : Str) = some (.ref p) := rfl
theorem lF_r {p R : Addr} {u c : Nat} : (lF p R u c).lookup ("rows" : Str) = some (.ref R) := by
  unfold lF
  simp [List.lookup, show (("rows" : Str) == "disk") = false by decide +kernel]
theorem lF_u {p R : Addr} {u c : Nat} : (lF p R u c).lookup ("used" : Str) = some (.int (u : Nat)) := by
  unfold lF
  simp [List.lookup, show (("used" : Str) == "disk") = false by decide +kernel, show (("used" : Str) == "rows") = false by decide +kernel]
theorem lF_c {p R : Addr} {u c : Nat} : (lF p R u c).lookup ("cuts" : Str) = some (.int (c : Nat)) := by
  unfold lF
  simp [List.lookup, show (("cuts" : Str) == "disk") = false by decide +kernel, show (("cuts" : Str) == "rows") = false by decide +kernel, show (("cuts" : Str) == "used") = false by decide +kernel]
theorem lF_no {p R : Addr} {u c : Nat} {f : Str} (h : ([("disk" : Str), "rows", "used", "cuts"] : List Str).all (fun g : Str => !(f == g)) = true) : (lF p R u c).lookup f = none := by
  unfold lF
  simp only [List.all_cons, List.all_nil, Bool.and_true, Bool.and_eq_true, Bool.not_eq_true'] at h
  obtain ⟨a, b, c, d⟩ := h
  simp [List.lookup, a, b, c, d]
theorem lF_new {p R : Addr} {u c : Nat} : putF "cuts" (.int (c : Nat)) (putF "used" (.int (u : Nat)) (putF "rows" (.ref R) (putF "disk" (.ref p) []))) = lF p R u c := by
  unfold lF
  simp [putF, show ¬ (("disk" : Str) = "rows") by decide +kernel, show ¬ (("disk" : Str) = "used") by decide +kernel, show ¬ (("disk" : Str) = "cuts") by decide +kernel, show ¬ (("rows" : Str) = "used") by decide +kernel, show ¬ (("rows" : Str) = "cuts") by decide +kernel, show ¬ (("used" : Str) = "cuts") by decide +kernel]
theorem putF_u {p R : Addr} {u u' c : Nat} : putF "used" (.int (u' : Nat)) (lF p R u c) = lF p R u' c := by
  unfold lF
  simp [putF, show ¬ (("disk" : Str) = "used") by decide +kernel, show ¬ (("rows" : Str) = "used") by decide +kernel]
/-- what the top has written of Log -/
structure TxL (K : PySem.W.Frag) (mg : Str → Option Value) (CL : Addr) : Prop where
  cl : Cls K CL
  n1 : NoAttr K CL "disk"
  n2 : NoAttr K CL "rows"
  n3 : NoAttr K CL "used"
  n4 : NoAttr K CL "cuts"
  g : mg "Log" = some (.ref CL)
structure LG (CL : Addr) (H : Hp) (lp p R : Addr) (rows : List Rec) (u c : Nat) : Prop where
  ex : ∃ dx vs, H lp = some (.ins CL dx (lF p R u c)) ∧ H R = some (.lst vs) ∧ LsR H vs rows
theorem LG.fr {CL : Addr} {Z Z' : Addr → Prop} {H H' : Hp} {lp p R : Addr} {rows : List Rec} {u c : Nat} (h : LG CL H lp p R rows u c) (n : NT Z H) (f : Fr Z H Z' H') (nl : ¬ Z lp) (nr : ¬ Z R) : LG CL H' lp p R rows u c ∧ ¬ Z' lp ∧ ¬ Z' R := by
  obtain ⟨dx, vs, h1, h2, h3⟩ := h.ex
  have a := f lp _ nl (fun ps z => by cases z) h1
  have b := f R _ nr (fun ps z => by cases z) h2
  exact ⟨⟨dx, vs, a.1, b.1, h3.fr n f⟩, a.2, b.2⟩
theorem LG.same {CL : Addr} {H H' : Hp} {lp p R : Addr} {rows : List Rec} {u c : Nat} (h : LG CL H lp p R rows u c) (k : Same H H') : LG CL H' lp p R rows u c := by
  obtain ⟨dx, vs, h1, h2, h3⟩ := h.ex
  exact ⟨dx, vs, k _ _ h1, k _ _ h2, h3.keep fun q xs e => k q _ e⟩
section
variable {P : Program} {w : World} {K : PySem.W.Frag} {mg : Str → Option Value} {base : Heap} {C CL NO LF PC : Addr}
def spLInit (C CL : Addr) : L2.Sp := fun vs H Q _ => ∃ (Z : Addr → Prop) (lp dx p ra : Addr) (s : DS) (ws : List V) (u : Nat), vs = [.ref lp, .ref p, .ref ra, .int (u : Nat)] ∧ H lp = some (.ins CL dx []) ∧ ¬ Z lp ∧ DA C Z H p s ∧ H ra = some (.lst ws) ∧
  ∀ H' R, H R = none → H' R = some (.lst ws) → H' lp = some (.ins CL dx (lF p R u s.cuts)) → (∀ b, b ≠ lp → b ≠ R → H' b = H b) → Q .non H'
theorem scLInit : FnScope ["self", "disk", "rows", "used"] ["self", "disk", "rows", "used"] (defScope mLInit) := ⟨rfl, rfl, rfl, by decide +kernel, rfl, by decide +kernel, by decide +kernel⟩
theorem ok_linit {f m1 : Addr} {fd md1 : FuncData} (F : Fun K "__init__" "Log.__init__" mLInit f fd) (T : Txt K mg) (TD : TxD K mg C) (TL : TxL K mg CL)
    (MN : MO P w K mg base CX0 1 C "cut_count" ["self"] (K5.spCuts C) m1 md1) : FnOk P w K mg base CX0 2 f fd ["self", "disk", "rows", "used"] (spLInit C CL) := by
  have sc := scLInit
  refine F.ok sc (fun vs H Q E h => ?_) (fun cdv A outer s H vs Q E hr h => ?_)
  · obtain ⟨Z, lp, dx, p, ra, s, ws, u, rfl, _⟩ := h
    rfl
  · obtain ⟨Z, lp, dx, p, ra, ds, ws, u, rfl, h1, nl, da, ha, q⟩ := h
    refine ⟨_, (pss_cons (ps_fld (pv 0) (pv 1) rfl)
      (pss_cons (ps_fld (pv 0) (pe_callTy call_list_of (by rfl) T.blist (by decide +kernel) (pa_cons (pv 2) pa_nil)) rfl)
      (pss_cons (ps_fld (pv 0) (pv 3) rfl)
      (pss_one (ps_fld (pv 0) (pe_meth0 (pv 1) TD.cl MN.mt MN.ok hr MN.bi .nil pass0) rfl))))), ?_⟩
    refine ⟨_, rfl, _, rfl, lp, CL, dx, _, rfl, h1, TL.cl, TL.n1, by decide, ?_⟩
    obtain ⟨ddx, S, W, dv, dvs, dus, d1, _⟩ := da.ex
    have nra : ra ≠ lp := ne_of ha h1 (by intro z; cases z)
    refine ⟨_, rfl, ra, ws, rfl, .inl (SqL.of (by rw [upd_ne nra]; exact ha)), fun l nl' => ?_⟩
    have nll : l ≠ lp := fun z => by rw [z, upd_same] at nl'; cases nl'
    have Hl : H l = none := by rw [upd_ne nll] at nl'; exact nl'
    refine ⟨_, rfl, lp, CL, dx, _, rfl, by rw [upd_ne nll.symm]; exact upd_same, TL.cl, TL.n2, by show 1 < 1000; decide, ?_⟩
    refine ⟨_, rfl, _, rfl, lp, CL, dx, _, rfl, upd_same, TL.cl, TL.n3, by show 2 < 1000; decide, ?_⟩
    have ol : ∀ q, q ≠ lp → q ≠ l → (upd (upd (upd (upd H lp (.ins CL dx (putF "disk" (.ref p) []))) l (.lst ws)) lp (.ins CL dx (putF "rows" (.ref l) (putF "disk" (.ref p) [])))) lp (.ins CL dx (putF "used" (.int (u : Nat)) (putF "rows" (.ref l) (putF "disk" (.ref p) []))))) q = H q := fun q a b => by rw [upd_ne a, upd_ne a, upd_ne b, upd_ne a]
    have el : (upd (upd (upd (upd H lp (.ins CL dx (putF "disk" (.ref p) []))) l (.lst ws)) lp (.ins CL dx (putF "rows" (.ref l) (putF "disk" (.ref p) [])))) lp (.ins CL dx (putF "used" (.int (u : Nat)) (putF "rows" (.ref l) (putF "disk" (.ref p) []))))) l = some (.lst ws) := by rw [upd_ne nll, upd_ne nll, upd_same]
    have elp : (upd (upd (upd (upd H lp (.ins CL dx (putF "disk" (.ref p) []))) l (.lst ws)) lp (.ins CL dx (putF "rows" (.ref l) (putF "disk" (.ref p) [])))) lp (.ins CL dx (putF "used" (.int (u : Nat)) (putF "rows" (.ref l) (putF "disk" (.ref p) []))))) lp = some (.ins CL dx (putF "used" (.int (u : Nat)) (putF "rows" (.ref l) (putF "disk" (.ref p) [])))) := upd_same
    generalize (upd (upd (upd (upd H lp (.ins CL dx (putF "disk" (.ref p) []))) l (.lst ws)) lp (.ins CL dx (putF "rows" (.ref l) (putF "disk" (.ref p) [])))) lp (.ins CL dx (putF "used" (.int (u : Nat)) (putF "rows" (.ref l) (putF "disk" (.ref p) []))))) = H9 at *
    have da9 : DA C Z H9 p ds := da.same fun q o z e => by rw [ol q (fun y => nl (y ▸ z)) (fun y => by rw [y, Hl] at e; cases e)]; exact e
    obtain ⟨ddx, S, W, dv, dvs, dus, d1, _⟩ := da9.ex
    refine ⟨_, rfl, p, ddx, _, rfl, d1, K5.dF_no (by decide +kernel), Z, p, ds, rfl, da9, ?_⟩
    refine ⟨_, rfl, lp, CL, dx, _, rfl, elp, TL.cl, TL.n4, by show 3 < 1000; decide, ?_⟩
    exact q _ l Hl (by rw [upd_ne nll]; exact el) (by rw [upd_same, lF_new]) fun b a b2 => by rw [upd_ne a, ol b a b2]
def spRecs (CL : Addr) : L2.Sp := fun vs H Q _ => ∃ (lp p R dx : Addr) (ws : List V) (u c : Nat), vs = [.ref lp] ∧ H lp = some (.ins CL dx (lF p R u c)) ∧ H R = some (.lst ws) ∧ ∀ D, H D = none → Q (.ref D) (upd H D (.lst ws))
theorem scRecs : FnScope ["self"] ["self"] (defScope mRecs) := ⟨rfl, rfl, rfl, by decide +kernel, rfl, by decide +kernel, by decide +kernel⟩
theorem ok_recs {f : Addr} {fd : FuncData} (F : Fun K "records" "Log.records" mRecs f fd) (T : Txt K mg) (TL : TxL K mg CL) : FnOk P w K mg base CX0 1 f fd ["self"] (spRecs CL) := by
  have sc := scRecs
  refine F.ok sc (fun vs H Q E h => ?_) (fun cdv A outer s H vs Q E hr h => ?_)
  · obtain ⟨lp, p, R, dx, ws, u, c, rfl, _⟩ := h
    rfl
  · obtain ⟨lp, p, R, dx, ws, u, c, rfl, h1, h2, q⟩ := h
    refine ⟨_, (pss_one (ps_ret (pe_callTy call_list_of (by rfl) T.blist (by decide +kernel) (pa_cons (pe_fld (pv 0) rfl) pa_nil)))), ?_⟩
    exact ⟨_, rfl, lp, CL, dx, _, _, rfl, h1, TL.cl, TL.n2, lF_r, R, ws, rfl, .inl (SqL.of h2), fun D nD => q D nD⟩
def spFree (C CL : Addr) : L2.Sp := fun vs H Q _ => ∃ (Z : Addr → Prop) (lp p R dx : Addr) (s : DS) (u c : Nat), vs = [.ref lp] ∧ H lp = some (.ins CL dx (lF p R u c)) ∧ DA C Z H p s ∧ Q (.int ((s.st.length : Nat) - (u : Nat))) H
theorem scFree : FnScope ["self"] ["self"] (defScope mFree) := ⟨rfl, rfl, rfl, by decide +kernel, rfl, by decide +kernel, by decide +kernel⟩
theorem ok_free {f m1 : Addr} {fd md1 : FuncData} (F : Fun K "free_blocks" "Log.free_blocks" mFree f fd) (TD : TxD K mg C) (TL : TxL K mg CL)
    (MS : MO P w K mg base CX0 1 C "size" ["self"] (K5.spSize C) m1 md1) : FnOk P w K mg base CX0 2 f fd ["self"] (spFree C CL) := by
  have sc := scFree
  refine F.ok sc (fun vs H Q E h => ?_) (fun cdv A outer s H vs Q E hr h => ?_)
  · obtain ⟨Z, lp, p, R, dx, s, u, c, rfl, _⟩ := h
    rfl
  · obtain ⟨Z, lp, p, R, dx, ds, u, c, rfl, h1, da, q⟩ := h
    refine ⟨_, (pss_one (ps_ret (pe_op op_sub (pe_meth0 (pe_fld (pv 0) rfl) TD.cl MS.mt MS.ok hr MS.bi .nil pass0) (pe_fld (pv 0) rfl)))), ?_⟩
    obtain ⟨ddx, S, W, dv, dvs, dus, d1, _⟩ := da.ex
    refine ⟨_, rfl, lp, CL, dx, _, _, rfl, h1, TL.cl, TL.n1, lF_d, p, ddx, _, rfl, d1, K5.dF_no (by decide +kernel), Z, p, ds, rfl, da, ?_⟩
    refine ⟨_, rfl, lp, CL, dx, _, _, rfl, h1, TL.cl, TL.n3, lF_u, _, _, rfl, rfl, q⟩
def spIsOpen (C CL : Addr) : L2.Sp := fun vs H Q _ => ∃ (Z : Addr → Prop) (lp p R dx : Addr) (s : DS) (u c : Nat), vs = [.ref lp] ∧ H lp = some (.ins CL dx (lF p R u c)) ∧ DA C Z H p s ∧ Q (.bl (decide (s.cuts = c))) H
theorem scIsOpen : FnScope ["self"] ["self"] (defScope mIsOpen) := ⟨rfl, rfl, rfl, by decide +kernel, rfl, by decide +kernel, by decide +kernel⟩
theorem ok_isOpen {f m1 : Addr} {fd md1 : FuncData} (F : Fun K "is_open" "Log.is_open" mIsOpen f fd) (TD : TxD K mg C) (TL : TxL K mg CL)
    (MN : MO P w K mg base CX0 1 C "cut_count" ["self"] (K5.spCuts C) m1 md1) : FnOk P w K mg base CX0 2 f fd ["self"] (spIsOpen C CL) := by
  have sc := scIsOpen
  refine F.ok sc (fun vs H Q E h => ?_) (fun cdv A outer s H vs Q E hr h => ?_)
  · obtain ⟨Z, lp, p, R, dx, s, u, c, rfl, _⟩ := h
    rfl
  · obtain ⟨Z, lp, p, R, dx, ds, u, c, rfl, h1, da, q⟩ := h
    refine ⟨_, (pss_one (ps_ret (pe_cmpR op_eq (pe_meth0 (pe_fld (pv 0) rfl) TD.cl MN.mt MN.ok hr MN.bi .nil pass0) (pe_fld (pv 0) rfl) (nomark _)))), ?_⟩
    obtain ⟨ddx, S, W, dv, dvs, dus, d1, _⟩ := da.ex
    refine ⟨_, rfl, lp, CL, dx, _, _, rfl, h1, TL.cl, TL.n1, lF_d, p, ddx, _, rfl, d1, K5.dF_no (by decide +kernel), Z, p, ds, rfl, da, ?_⟩
    refine ⟨_, rfl, lp, CL, dx, _, _, rfl, h1, TL.cl, TL.n4, lF_c, rfl, ?_⟩
    have e : decide (V.int (ds.cuts : Nat) = V.int (c : Nat)) = decide (ds.cuts = c) := decide_eq_decide.mpr ⟨fun z => by injection z with z; omega, fun z => by rw [z]⟩
    show Q (.bl (decide (V.int (ds.cuts : Nat) = V.int (c : Nat)))) H
    rw [e]
    exact q
def spChkO (C CL NO : Addr) : L2.Sp := fun vs H Q E => ∃ (Z : Addr → Prop) (lp p R dx : Addr) (s : DS) (u c : Nat), vs = [.ref lp] ∧ H lp = some (.ins CL dx (lF p R u c)) ∧ DA C Z H p s ∧ (s.cuts = c → Q .non H) ∧ (s.cuts ≠ c → E (.ref NO) none H)
theorem scChkO : FnScope ["self"] ["self"] (defScope mChk) := ⟨rfl, rfl, rfl, by decide +kernel, rfl, by decide +kernel, by decide +kernel⟩
theorem ok_chkO {f m1 : Addr} {fd md1 : FuncData} (F : Fun K "check_open" "Log.check_open" mChk f fd) (TD : TxD K mg C) (TL : TxL K mg CL) (TN : TxP K mg "NotOpen" NO)
    (MO : MO P w K mg base CX0 2 CL "is_open" ["self"] (spIsOpen C CL) m1 md1) : FnOk P w K mg base (L2.CX P w) 3 f fd ["self"] (spChkO C CL NO) := by
  have sc := scChkO
  refine F.okX sc (fun vs H Q E h => ?_) (fun cdv A outer s H vs Q E hr h => ?_)
  · obtain ⟨Z, lp, p, R, dx, s, u, c, rfl, _⟩ := h
    rfl
  · obtain ⟨Z, lp, p, R, dx, ds, u, c, rfl, h1, da, q1, q2⟩ := h
    refine ⟨_, (pss_one (ps_if (pt_not (pt_val (pe_meth0 (pv 0) TL.cl MO.mt MO.ok hr MO.bi .nil pass0)))
      (pss_one (ps_raise rfl (takes_of rfl rfl rfl rfl) (pmk_own PySem.F.excBase_ValueError TN.x TN.g TN.k (raises_own TN.b TN.t) rfl)))
      pss_nil)), ?_⟩
    refine ⟨_, rfl, lp, dx, _, rfl, h1, lF_no (by decide +kernel), Z, lp, p, R, dx, ds, u, c, rfl, h1, da, ?_⟩
    refine ⟨_, rfl, ?_⟩
    by_cases e : ds.cuts = c
    · exact K5.iteE (by rw [decide_eq_true e]; rfl) (q1 e)
    · exact K5.iteY (by rw [decide_eq_false e]; rfl) (q2 e)
def spRoom (C CL : Addr) : L2.Sp := fun vs H Q _ => ∃ (Z : Addr → Prop) (lp p R ra dx : Addr) (s : DS) (ws rs : List V) (xs : List Rec) (u c : Nat), vs = [.ref lp, .ref ra] ∧ H lp = some (.ins CL dx (lF p R u c)) ∧ H R = some (.lst rs) ∧ rs.length ≤ 1000 ∧ DA C Z H p s ∧ H ra = some (.lst ws) ∧ LsR H ws xs ∧ (∀ x ∈ xs, RS x) ∧ xs.length ≤ 200 ∧
  ∀ H', Same H H' → Q (.bl (decide (((blkL rs.length xs).length : Int) ≤ (s.st.length : Nat) - (u : Nat)))) H'
end
end K7

set_option maxRecDepth 100000
set_option maxHeartbeats 4000000
/-! logs: sync, append -/
namespace K7
open PySem hiding Tok code
open PySem.Spec PyProof.Rows GD K1
open L2 hiding rest
open K6 (Rec RecAt RecSm wR spWRec recV recA T2 ST)
open K4 (Blks BlkV encR iv)
open K5 (DS DA Kz grow rdM stepS tnS cutM flM MO TxD TxP passE)
theorem nxp {u b c : L2.St → Hp → Prop} {r : VK} {σ : L2.St} {H : Hp} (h : u σ H) : (⟨u, r, b, c⟩ : Ends).nx σ H := h
/-- the blocks with their places from u on -/
def plc (u : Nat) (bs : List (List Int)) : List (Nat × List Int) := (List.range bs.length).map fun i => (u + i, bs.getD i [])
theorem plc_take {u : Nat} {bs : List (List Int)} {i : Nat} {b : List Int} (h : bs[i]? = some b) : (plc u bs).take (i + 1) = (plc u bs).take i ++ [(u + i, b)] := by
  have hi := (List.getElem?_eq_some_iff.mp h).1
  have : (plc u bs)[i]? = some (u + i, b) := by
    unfold plc
    rw [List.getElem?_map, List.getElem?_range hi]
    simp [h]
  rw [List.take_add_one, this]
  rfl
theorem plc_len (u : Nat) (bs : List (List Int)) : (plc u bs).length = bs.length := by
  unfold plc
  rw [List.length_map, List.length_range]
theorem ok_bytes {n : Nat} {x : Rec} {b : List Int} (hn : n < 65536) (hx : ∀ c ∈ tL x, c ≤ 255) (h : b ∈ rowB n x) (hl : (tL x).length ≤ 720) : K5.okB b = true := by
  unfold rowB encR at h
  obtain ⟨k, hk, rfl⟩ := List.mem_map.mp h
  have hk := List.mem_range.mp hk
  have pl := K4.piece_len (tL x) k
  have cl : K4.cnt (tL x) ≤ 30 := by unfold K4.cnt; omega
  refine List.all_eq_true.mpr fun y hy => ?_
  unfold K5.okb
  rw [Bool.and_eq_true]
  have : 0 ≤ y ∧ y ≤ 255 := by
    unfold K4.enc at hy
    rcases List.mem_append.mp hy with hy | hy
    · rcases List.mem_append.mp hy with hy | hy
      · rcases List.mem_append.mp hy with hy | hy
        · simp only [List.mem_cons, List.not_mem_nil, or_false] at hy
          rcases hy with rfl | rfl | rfl | rfl | rfl | rfl <;> omega
        · obtain ⟨c, hc, rfl⟩ := List.mem_map.mp hy
          have := hx c (K4.piece_mem hc)
          omega
      · rw [List.eq_of_mem_replicate hy]; omega
    · rw [List.mem_singleton.mp hy]; omega
  exact ⟨decide_eq_true this.1, decide_eq_true this.2⟩
/-- records whose texts are of signs -/
def RB (x : Rec) : Prop := RS x ∧ ∀ c ∈ tL x, c ≤ 255
theorem blkL_mem : ∀ (n : Nat) {xs : List Rec} {b : List Int}, (∀ x ∈ xs, RB x) → n + xs.length ≤ 65535 → b ∈ blkL n xs → b.length = 32 ∧ K5.okB b = true
  | n, [], b, _, _, h => by cases h
  | n, x :: r, b, hx, hn, h => by
    rw [List.length_cons] at hn
    rcases List.mem_append.mp h with h | h
    · have := hx x (List.mem_cons_self ..)
      exact ⟨rowB_32 h, ok_bytes (by omega) this.2 h this.1.2⟩
    · exact blkL_mem (n + 1) (fun y hy => hx y (List.mem_cons_of_mem _ hy)) (by omega) h
theorem wrM_app : ∀ {l r : List (Nat × List Int)} {s x : DS}, wrM s l = .inl x → wrM s (l ++ r) = .inl x
  | [], r, s, x, h => by cases h
  | e :: l, r, s, x, h => by
    rw [List.cons_append, wrM]
    rw [wrM] at h
    cases h2 : stepS s with
    | none => rw [h2] at h; exact h
    | some s2 => rw [h2] at h; exact wrM_app (l := l) h
theorem DL.wr {C PN PV : Addr} {Z : Addr → Prop} {H : Hp} {p a : Addr} {s : DS} {u o : HO} (h : DL C PN PV Z H p s) (nz : ¬ Z a) (e : H a = some u) (n : ∀ ps, u ≠ .tbl ps) : DL C PN PV Z (upd H a o) p s := by
  have key : ∀ q o', Z q → H q = some o' → upd H a o q = some o' := fun q o' z e' => by
    have ne : q ≠ a := fun y => nz (by rw [← y]; exact z)
    rw [upd_ne ne]
    exact e'
  exact ⟨h.da.same key, fun q z => let ⟨o', e', ok⟩ := h.nt q z; ⟨o', key q o' z e', ok⟩, ⟨K6.tab_wr h.t2.n e n, K6.tab_wr h.t2.v e n⟩⟩
section
variable {P : Program} {w : World} {K : PySem.W.Frag} {mg : Str → Option Value} {base : Heap} {C CL NO LF PC D PN PV : Addr}
def spSync (C CL NO PC PN PV : Addr) : L2.Sp := fun vs H Q E => ∃ (Z : Addr → Prop) (lp p R dx : Addr) (s : DS) (u c : Nat), vs = [.ref lp] ∧ H lp = some (.ins CL dx (lF p R u c)) ∧ DL C PN PV Z H p s ∧ s.wa.length ≤ 1000 ∧ (tnS s).length ≤ 1000 ∧
  (s.cuts ≠ c → E (.ref NO) none H) ∧ (s.cuts = c → (∀ s' H' Z', fluM s = .inr s' → DL C PN PV Z' H' p s' → Fr Z H Z' H' → Q .non H') ∧ ∀ s' H' Z', fluM s = .inl s' → DL C PN PV Z' H' p s' → Fr Z H Z' H' → E (.ref PC) none H')
theorem scSync : FnScope ["self"] ["self"] (defScope mSync) := ⟨rfl, rfl, rfl, by decide +kernel, rfl, by decide +kernel, by decide +kernel⟩
theorem ok_sync {f m1 m2 : Addr} {fd md1 md2 : FuncData} (F : Fun K "sync" "Log.sync" mSync f fd) (TD : TxD K mg C) (TL : TxL K mg CL)
    (MC : MO P w K mg base (L2.CX P w) 3 CL "check_open" ["self"] (spChkO C CL NO) m1 md1) (MFl : MO P w K mg base (L2.CX P w) 6 C "flush" ["self"] (K5.spFlush C PC) m2 md2) : FnOk P w K mg base (L2.CX P w) 7 f fd ["self"] (spSync C CL NO PC PN PV) := by
  have sc := scSync
  refine F.okX sc (fun vs H Q E h => ?_) (fun cdv A outer s H vs Q E hr h => ?_)
  · obtain ⟨Z, lp, p, R, dx, s, u, c, rfl, _⟩ := h
    rfl
  · obtain ⟨Z, lp, p, R, dx, ds, u, c, rfl, h1, dl, hw, ht, q1, q2⟩ := h
    refine ⟨_, (pss_cons (ps_expr (pe_meth0 (pv 0) TL.cl MC.mt MC.ok (hr.mono (by decide)) MC.bi .nil passE))
      (pss_one (ps_expr (pe_meth0 (pe_fld (pv 0) rfl) TD.cl MFl.mt MFl.ok hr MFl.bi .nil passE)))), ?_⟩
    refine ⟨_, rfl, lp, dx, _, rfl, h1, lF_no (by decide +kernel), Z, lp, p, R, dx, ds, u, c, rfl, h1, dl.da, fun e => ?_, q1⟩
    obtain ⟨q3, q4⟩ := q2 e
    obtain ⟨ddx, S, W, dv, dvs, dus, d1, _⟩ := dl.da.ex
    refine ⟨_, rfl, lp, CL, dx, _, _, rfl, h1, TL.cl, TL.n1, lF_d, p, ddx, _, rfl, d1, K5.dF_no (by decide +kernel), Z, p, ds, rfl, dl.da, hw, ht, fun s' hs H' kz da => ?_, fun hs H' kz da => ?_⟩
    · obtain ⟨Z', dl', fr⟩ := dl.kz kz da
      exact q3 (flM s') H' Z' (by unfold fluM; rw [hs]) dl' fr
    · obtain ⟨Z', dl', fr⟩ := dl.kz kz da
      exact q4 _ H' Z' (by unfold fluM; rw [hs]) dl' fr
def spApp (C CL NO LF PC PN PV : Addr) : L2.Sp := fun vs H Q E => ∃ (Z : Addr → Prop) (lp p R ra : Addr) (s : DS) (ws : List V) (rows xs : List Rec) (u c : Nat), vs = [.ref lp, .ref ra] ∧ LG CL H lp p R rows u c ∧ ¬ Z lp ∧ ¬ Z R ∧ lp ≠ R ∧ ra ≠ lp ∧ ra ≠ R ∧ ¬ Z ra ∧ DL C PN PV Z H p s ∧
  H ra = some (.lst ws) ∧ LsR H ws xs ∧ (∀ x ∈ xs, RB x) ∧ xs.length ≤ 200 ∧ rows.length ≤ 1000 ∧ u ≤ s.st.length ∧ s.wa.length ≤ 400 ∧ (tnS s).length ≤ 1000 ∧
  (s.cuts ≠ c → E (.ref NO) none H) ∧ (s.cuts = c →
    (s.st.length < u + (blkL rows.length xs).length → ∀ H', Same H H' → E (.ref LF) none H') ∧
    (u + (blkL rows.length xs).length ≤ s.st.length →
      (∀ s' H' Z', wrM s (plc u (blkL rows.length xs)) = .inr s' → DL C PN PV Z' H' p s' → LG CL H' lp p R (rows ++ xs) (u + (blkL rows.length xs).length) c → ¬ Z' lp → ¬ Z' R → (∀ q o, q ≠ lp → q ≠ R → ¬ Z q → (∀ ps, o ≠ .tbl ps) → H q = some o → H' q = some o ∧ ¬ Z' q) → Q (.int ((rows.length + xs.length : Nat) : Int)) H') ∧
      ∀ s' H' Z', wrM s (plc u (blkL rows.length xs)) = .inl s' → DL C PN PV Z' H' p s' → Fr Z H Z' H' → E (.ref PC) none H'))
theorem scApp : FnScope ["self", "rows", "blocks", "at", "block"] ["self", "rows"] (defScope mApp) := ⟨rfl, rfl, rfl, by decide +kernel, rfl, by decide +kernel, by decide +kernel⟩
theorem ok_app {f f1 m1 m2 m3 : Addr} {fd fd1 md1 md2 md3 : FuncData} (F : Fun K "append" "Log.append" mApp f fd) (T : Txt K mg) (T3 : K5.Txt3 mg) (TD : TxD K mg C) (TL : TxL K mg CL) (TF : TxP K mg "LogFull" LF)
    (FB : K5.FO P w K mg base CX0 3 "blocks_of" ["rows", "first"] spBlk f1 fd1) (MC : MO P w K mg base (L2.CX P w) 3 CL "check_open" ["self"] (spChkO C CL NO) m1 md1) (MF : MO P w K mg base CX0 2 CL "free_blocks" ["self"] (spFree C CL) m2 md2)
    (MW : MO P w K mg base (L2.CX P w) 6 C "write" ["self", "at", "block"] (K5.spWrite C D PC) m3 md3) : FnOk P w K mg base (L2.CX P w) 7 f fd ["self", "rows"] (spApp C CL NO LF PC PN PV) := by
  have sc := scApp
  refine F.okX sc (fun vs H Q E h => ?_) (fun cdv A outer s H vs Q E hr h => ?_)
  · obtain ⟨Z, lp, p, R, ra, s, ws, rows, xs, u, c, rfl, _⟩ := h
    rfl
  · obtain ⟨Z, lp, p, R, ra, ds, ws, rows, xs, u, c, rfl, lg, nl, nr, nlR, nal, naR, na, dl, ha, hx, hs, hl, hrl, hu, hw, ht, q1, q2⟩ := h
    refine ⟨_, (pss_cons (ps_expr (pe_meth0 (pv 0) TL.cl MC.mt MC.ok (hr.mono (by decide)) MC.bi .nil passE))
      (pss_cons (ps_set (i := 2) sc.nd rfl (Or.inl rfl) (pe_call FB.ok (hr.mono (by decide)) (by rfl) FB.m FB.kp FB.b .nil pass0 (pa_cons (pv 1) (pa_cons (pe_callB call_len_seq (by rfl) T.len (by decide +kernel) (pa_cons (pe_fld (pv 0) rfl) pa_nil)) pa_nil))))
      (pss_cons (ps_if (pt_cmpR op_gt (pe_callB call_len_seq (by rfl) T.len (by decide +kernel) (pa_cons (pv 2) pa_nil)) (pe_meth0 (pv 0) TL.cl MF.mt MF.ok (hr.mono (by decide)) MF.bi .nil pass0) (nomark _))
      (pss_one (ps_raise rfl (takes_of rfl rfl rfl rfl) (pmk_own PySem.F.excBase_ValueError TF.x TF.g TF.k (raises_own TF.b TF.t) rfl)))
      pss_nil)
      (pss_cons (ps_for (passes_of rfl) rfl (pi_enumS rfl T3.enumerate (pa_cons (pv 2) pa_nil) (pe_fld (pv 0) rfl)) (pg_tup rfl (pgs_cons (pg_name (i := 3) sc.nd rfl (Or.inl rfl)) (pgs_cons (pg_name (i := 4) sc.nd rfl (Or.inl rfl)) pgs_nil)))
      (pss_one (ps_expr (pe_meth (pe_fld (pv 0) rfl) TD.cl MW.mt MW.ok hr MW.bi .nil passE (pa_cons (pv 3) (pa_cons (pv 4) pa_nil))))))
      (pss_cons (ps_fldaug (pv 0) (pe_callB call_len_seq (by rfl) T.len (by decide +kernel) (pa_cons (pv 2) pa_nil)) in_add)
      (pss_cons (ps_expr (pe_bm PySem.F.plainAttrs_list PySem.F.slot_list_extend PySem.F.type_list_extend mt_extend (pe_fld (pv 0) rfl) (pa_cons (pv 1) pa_nil)))
      (pss_one (ps_ret (pe_callB call_len_seq (by rfl) T.len (by decide +kernel) (pa_cons (pe_fld (pv 0) rfl) pa_nil)))))))))), ?_⟩
    obtain ⟨dx, vs, h1, h2, h3⟩ := lg.ex
    have lv := pairLen h3
    refine ⟨_, rfl, lp, dx, _, rfl, h1, lF_no (by decide +kernel), Z, lp, p, R, dx, ds, u, c, rfl, h1, dl.da, fun e => ?_, q1⟩
    obtain ⟨q3, q4⟩ := q2 e
    refine ⟨_, rfl, _, rfl, lp, CL, dx, _, _, rfl, h1, TL.cl, TL.n2, lF_r, R, vs, rfl, .inl (SqL.of h2), ra, ws, xs, vs.length, rfl, ha, hx, fun x hx => (hs x hx).1, hl, by omega, fun H1 D us s1 nD eD bl fr => ?_⟩
    rw [lv] at bl
    have lu := pairLen bl
    obtain ⟨bs, ebs⟩ : ∃ bs, bs = blkL rows.length xs := ⟨_, rfl⟩
    rw [← ebs] at bl lu q3 q4
    have dl1 := dl.same s1
    have lg1 := lg.same s1
    refine ⟨_, rfl, D, us, rfl, .inl (SqL.of eD), ?_⟩
    refine ⟨_, rfl, lp, dx, _, rfl, s1 _ _ h1, lF_no (by decide +kernel), Z, lp, p, R, dx, ds, u, c, rfl, s1 _ _ h1, dl1.da, ?_⟩
    refine ⟨_, _, rfl, rfl, _, rfl, ?_⟩
    by_cases big : ds.st.length < u + bs.length
    · refine K5.iteY (decide_eq_true (by rw [lu]; omega)) ?_
      exact q3 big H1 s1
    refine K5.iteE (decide_eq_false (by rw [lu]; omega)) ?_
    obtain ⟨q5, q6⟩ := q4 (by omega)
    have zD : ¬ Z D := dl.no nD
    have hst : ds.st.length ≤ 400 := dl.da.hi
    have le : u + bs.length ≤ ds.st.length := by omega
    refine nxp ?_
    refine ⟨_, rfl, _, rfl, lp, CL, dx, _, _, rfl, s1 _ _ h1, TL.cl, TL.n3, lF_u, D, us, u, rfl, rfl, by omega, SqL.of eD, ?_⟩
    refine for_it (walk_enumS (K := K) (a := D) (k := u) (xs := us)) (fun i σ H' => ∃ (y3 y4 : Option V) (s' : DS) (Z' : Addr → Prop), σ = [some (.ref lp), some (.ref ra), some (.ref D), y3, y4] ∧ wrM ds ((plc u bs).take i) = .inr s' ∧ DL C PN PV Z' H' p s' ∧ Fr Z H1 Z' H')
      ⟨none, none, ds, Z, rfl, rfl, dl1, Fr.refl Z H1⟩ (fun i σ H' _ hI => ?_) (fun i v σ H2 H3 hi hI y => ?_) (fun σ H' hI => ?_)
    · obtain ⟨y3, y4, s', Z', _, _, _, f⟩ := hI
      exact SqL.of (f D _ zD (fun ps z => by cases z) eD).1
    · obtain ⟨y3, y4, s', Z', rfl, hwr, dl2, f⟩ := hI
      obtain ⟨Tq, v1, v2, rfl, nT, rfl, e1, e2⟩ := y
      cases e1
      obtain ⟨b, hb, q, rfl, hq⟩ := pairAt bl e2
      have nq : ¬ Z q := by
        obtain ⟨q', e', n'⟩ := fr _ (List.mem_of_getElem? e2)
        cases e'
        exact dl.no n'
      obtain ⟨b32, bok⟩ := blkL_mem rows.length hs (by omega) (by rw [← ebs]; exact List.mem_of_getElem? hb)
      have fq := f q _ nq (fun ps z => by cases z) hq
      have flp := f lp _ nl (fun ps z => by cases z) (s1 _ _ h1)
      have s3 : Same H2 (upd H2 Tq (.tup [.int ((u + i : Nat) : Int), .ref q])) := Same.lst (Same.refl H2) nT
      refine ⟨Tq, _, rfl, SqT.of upd_same, rfl, _, _, rfl, _, _, rfl, rfl, ?_⟩
      generalize upd H2 Tq (.tup [.int ((u + i : Nat) : Int), .ref q]) = H3 at *
      have dl3 := dl2.same s3
      obtain ⟨ddx, S, W, dv, dvs, dus, d1, _⟩ := dl3.da.ex
      obtain ⟨w1, w2, w3, w4⟩ := wrM_st _ _ _ hwr
      have il : i < bs.length := by omega
      have twl : ((plc u bs).take i).length ≤ 400 := by rw [List.length_take, plc_len]; omega
      refine ⟨_, rfl, lp, CL, dx, _, _, rfl, s3 _ _ flp.1, TL.cl, TL.n1, lF_d, p, ddx, _, rfl, d1, K5.dF_no (by decide +kernel), _, rfl, _, rfl, Z', p, s', ((u + i : Nat) : Int), q, b, rfl, dl3.da, s3 _ _ fq.1, fq.2, by omega, by rw [w2, List.length_append]; omega, by omega, fun bad => ?_, fun n en hn => ⟨fun bad => ?_, fun _ _ => ⟨fun s2 h2 H' kz da => ?_, fun h2 H' kz da => ?_⟩⟩⟩
      · exfalso
        rw [w1] at bad
        omega
      · exfalso
        rcases bad with z | z
        · exact z b32
        · rw [bok] at z; cases z
      · have en : n = u + i := by omega
        subst en
        obtain ⟨Z2, dl4, f4⟩ := dl3.kz kz da
        refine ⟨_, _, _, Z2, rfl, ?_, dl4, f.trans ((Fr.same s3).trans f4)⟩
        rw [plc_take hb, wrM_snoc, hwr]
        show (match stepS s' with | none => _ | some s2 => _) = _
        rw [h2]
      · obtain ⟨Z2, dl4, f4⟩ := dl3.kz kz da
        refine q6 _ H' Z2 ?_ dl4 ((Fr.same s1).trans (f.trans ((Fr.same s3).trans f4)))
        have := wrM_app (l := (plc u bs).take (i + 1)) (r := (plc u bs).drop (i + 1)) (s := ds) (x := cutM s' (tnS s')) (by
          rw [plc_take hb, wrM_snoc, hwr]
          show (match stepS s' with | none => _ | some s2 => _) = _
          rw [h2])
        rw [List.take_append_drop] at this
        exact this
    · obtain ⟨y3, y4, s', Z', rfl, hwr, dl2, f⟩ := hI
      have f0 : Fr Z H Z' H' := (Fr.same s1).trans f
      have tk : (plc u bs).take us.length = plc u bs := List.take_of_length_le (by rw [plc_len]; omega)
      rw [tk] at hwr
      obtain ⟨lg2, nl2, nr2⟩ := lg.fr dl.nt f0 nl nr
      obtain ⟨dx2, vs2, g1, g2, g3⟩ := lg2.ex
      have fD := f D _ zD (fun ps z => by cases z) eD
      have fa := f0 ra _ na (fun ps z => by cases z) ha
      have hx2 := hx.fr dl.nt f0
      have lv2 := pairLen g3
      have lw := pairLen hx
      refine ⟨_, rfl, lp, CL, dx2, _, _, rfl, g1, TL.cl, TL.n3, lF_u, _, rfl, D, us, rfl, .inl (SqL.of fD.1), _, _, rfl, rfl, dx2, _, g1, by show 4 < 1000; decide, ?_⟩
      rw [show ((u : Nat) : Int) + ((us.length : Nat) : Int) = ((u + bs.length : Nat) : Int) by omega, putF_u]
      have nRl : R ≠ lp := nlR.symm
      refine ⟨_, rfl, lp, CL, dx2, _, _, rfl, upd_same, TL.cl, TL.n2, lF_r, ?_⟩
      have eR : upd H' lp (.ins CL dx2 (lF p R (u + bs.length) c)) R = some (.lst vs2) := by rw [upd_ne nRl]; exact g2
      have ea : upd H' lp (.ins CL dx2 (lF p R (u + bs.length) c)) ra = some (.lst ws) := by rw [upd_ne nal]; exact fa.1
      have elp : upd H' lp (.ins CL dx2 (lF p R (u + bs.length) c)) lp = some (.ins CL dx2 (lF p R (u + bs.length) c)) := upd_same
      have dl5 := dl2.wr (o := .ins CL dx2 (lF p R (u + bs.length) c)) nl2 g1 (fun ps z => by cases z)
      have ol : ∀ q o, q ≠ lp → H' q = some o → upd H' lp (.ins CL dx2 (lF p R (u + bs.length) c)) q = some o := fun q o a e => by rw [upd_ne a]; exact e
      have g35 := g3.keep (H' := upd H' lp (.ins CL dx2 (lF p R (u + bs.length) c))) fun q xs e => ol _ _ (ne_of e g1 (by intro z; cases z)) e
      have hx5 := hx2.keep (H' := upd H' lp (.ins CL dx2 (lF p R (u + bs.length) c))) fun q xs e => ol _ _ (ne_of e g1 (by intro z; cases z)) e
      generalize upd H' lp (.ins CL dx2 (lF p R (u + bs.length) c)) = H5 at *
      refine ⟨.inl ⟨rfl, _, SqL.of eR⟩, _, rfl, R, ra, vs2, ws, rfl, rfl, eR, ea, szle (by omega), ?_⟩
      refine ⟨_, rfl, lp, CL, dx2, _, _, rfl, (upd_ne nlR).trans elp, TL.cl, TL.n2, lF_r, R, _, rfl, .inl (SqL.of upd_same), ?_⟩
      have up : ∀ q xs, H5 q = some (.tup xs) → upd H5 R (.lst (vs2 ++ ws)) q = some (.tup xs) := fun q xs e => by rw [upd_ne (ne_of e eR (by intro z; cases z))]; exact e
      have res := q5 s' (upd H5 R (.lst (vs2 ++ ws))) Z' hwr (dl5.wr (o := .lst (vs2 ++ ws)) nr2 eR (fun ps z => by cases z)) ⟨dx2, vs2 ++ ws, (upd_ne nlR).trans elp, upd_same, pairApp (g35.keep up) (hx5.keep up)⟩ nl2 nr2 fun q o a b z n e => by
        have f9 := f0 q o z n e
        exact ⟨by rw [upd_ne b]; exact ol q o a f9.1, f9.2⟩
      show Q (.int (((vs2 ++ ws).length : Nat) : Int)) _
      rw [List.length_append, lv2, lw]
      exact res
end
end K7

set_option maxRecDepth 100000
set_option maxHeartbeats 4000000
/-! clear, format_disk -/
namespace K7
open PySem hiding Tok code
open PySem.Spec PyProof.Rows GD K1
open L2 hiding rest
open K6 (Rec RecAt RecSm wR spWRec recV recA T2 ST)
open K4 (Blks BlkV encR iv)
open K5 (DS DA Kz grow rdM stepS tnS cutM flM MO TxD TxP TxO passE z32)
abbrev sClear : Stmt := topS 68
abbrev sChkE : Stmt := topS 52
abbrev sFmt : Stmt := topS 67
def zs (n m : Nat) : List (Nat × List Int) := (List.range (m - n)).map fun i => (n + i, z32)
theorem zs_take {n m i : Nat} (h : i < m - n) : (zs n m).take (i + 1) = (zs n m).take i ++ [(n + i, z32)] := by
  have : (zs n m)[i]? = some (n + i, z32) := by
    unfold zs
    rw [List.getElem?_map, List.getElem?_range h]
    rfl
  rw [List.take_add_one, this]
  rfl
theorem zs_len (n m : Nat) : (zs n m).length = m - n := by
  unfold zs
  rw [List.length_map, List.length_range]
def clM (s : DS) (n : Nat) : DS ⊕ DS := match wrM s (zs n s.st.length) with
  | .inl x => .inl x
  | .inr s' => fluM s'
def fmM (s : DS) (x : Rec) : DS ⊕ DS := match wrM s (plc 0 (blkL 0 [x])) with
  | .inl x => .inl x
  | .inr s' => clM s' (blkL 0 [x]).length
theorem rd_rep {σ : L2.St} {H : Hp} {Q : VK} {x kk : Int} {k : Nat} (ek : kk = (k : Nat)) (hk : k ≤ 1000) (q : ∀ H' l, Same H H' → H l = none → H' l = some (.lst (K5.iv (List.replicate k x))) → Q (.ref l) H') :
    (tOp rRep (tLst (tCons (tC (V.int x)) tNil)) (tC (V.int kk))) σ H Q := by
  subst ek
  refine ⟨(by show 1 ≤ sizeLine; decide), fun z nz => ?_⟩
  have s1 : Same H (upd H z (.lst [V.int x])) := Same.lst (Same.refl H) nz
  refine ⟨z, _, _, rfl, rfl, upd_same, by omega, by omega, ?_, fun l nl => ?_⟩
  · show 1 * ((k : Nat) : Int).toNat ≤ sizeLine
    rw [Nat.one_mul, Int.toNat_natCast]
    exact szle (by omega)
  · rw [Int.toNat_natCast, K5.rep_flat, K5.rep_iv]
    exact q _ l (K5.snew s1 nl) (K5.sfree s1 nl) upd_same
section
variable {P : Program} {w : World} {K : PySem.W.Frag} {mg : Str → Option Value} {base : Heap} {C CL NO LF PC D PN PV : Addr}
def spClear (C PC PN PV : Addr) : L2.Sp := fun vs H Q E => ∃ (Z : Addr → Prop) (p : Addr) (s : DS) (n : Nat), vs = [.ref p, .int (n : Nat)] ∧ DL C PN PV Z H p s ∧ n ≤ s.st.length ∧ s.wa.length ≤ 400 ∧ (tnS s).length ≤ 1000 ∧
  (∀ s' H' Z', clM s n = .inr s' → DL C PN PV Z' H' p s' → Fr Z H Z' H' → Q .non H') ∧ ∀ s' H' Z', clM s n = .inl s' → DL C PN PV Z' H' p s' → Fr Z H Z' H' → E (.ref PC) none H'
theorem scClear : FnScope ["disk", "first", "at"] ["disk", "first"] (defScope sClear) := ⟨rfl, rfl, rfl, by decide +kernel, rfl, by decide +kernel, by decide +kernel⟩
theorem ok_clear {f m1 m2 m3 : Addr} {fd md1 md2 md3 : FuncData} (F : Fun K "clear" "clear" sClear f fd) (T : Txt K mg) (TD : TxD K mg C)
    (MS : MO P w K mg base CX0 1 C "size" ["self"] (K5.spSize C) m1 md1) (MW : MO P w K mg base (L2.CX P w) 6 C "write" ["self", "at", "block"] (K5.spWrite C D PC) m2 md2) (MFl : MO P w K mg base (L2.CX P w) 6 C "flush" ["self"] (K5.spFlush C PC) m3 md3) :
    FnOk P w K mg base (L2.CX P w) 7 f fd ["disk", "first"] (spClear C PC PN PV) := by
  have sc := scClear
  obtain ⟨t1, gBLOCK⟩ := TD.BLOCK
  refine F.okX sc (fun vs H Q E h => ?_) (fun cdv A outer s H vs Q E hr h => ?_)
  · obtain ⟨Z, p, s, n, rfl, _⟩ := h
    rfl
  · obtain ⟨Z, p, ds, n, rfl, dl, hn, hw, ht, q1, q2⟩ := h
    refine ⟨_, (pss_cons (ps_for (passes_of rfl) rfl (pi_range2 rfl T.range (pa_cons (pv 1) (pa_cons (pe_meth0 (pv 0) TD.cl MS.mt MS.ok (hr.mono (by decide)) MS.bi .nil pass0) pa_nil))) (pg_name (i := 2) sc.nd rfl (Or.inl rfl))
      (pss_one (ps_expr (pe_meth (pv 0) TD.cl MW.mt MW.ok hr MW.bi .nil passE (pa_cons (pv 2) (pa_cons (pe_op op_rep (pe_lst (pa_cons pe_int pa_nil)) (pe_gint rfl gBLOCK)) pa_nil))))))
      (pss_one (ps_expr (pe_meth0 (pv 0) TD.cl MFl.mt MFl.ok hr MFl.bi .nil passE)))), ?_⟩
    obtain ⟨ddx, S, W, dv, dvs, dus, d1, _⟩ := dl.da.ex
    have hst : ds.st.length ≤ 400 := dl.da.hi
    refine ⟨_, rfl, _, rfl, p, ddx, _, rfl, d1, K5.dF_no (by decide +kernel), Z, p, ds, rfl, dl.da, _, _, rfl, ⟨by omega, by omega, by omega, by omega⟩, ?_⟩
    have en : (((ds.st.length : Nat) : Int) - ((n : Nat) : Int)).toNat = ds.st.length - n := by omega
    rw [en]
    refine for_it (walk_range (lo := ((n : Nat) : Int)) (n := ds.st.length - n)) (fun i σ H' => ∃ (y2 : Option V) (s' : DS) (Z' : Addr → Prop), σ = [some (.ref p), some (.int (n : Nat)), y2] ∧ wrM ds ((zs n ds.st.length).take i) = .inr s' ∧ DL C PN PV Z' H' p s' ∧ Fr Z H Z' H')
      ⟨none, ds, Z, rfl, rfl, dl, Fr.refl Z H⟩ (fun _ _ _ _ _ => trivial) (fun i v σ H2 H3 hi hI y => ?_) (fun σ H' hI => ?_)
    · obtain ⟨y2, s', Z', rfl, hwr, dl2, f⟩ := hI
      obtain ⟨rfl, rfl⟩ := y
      obtain ⟨w1, w2, w3, w4⟩ := wrM_st _ _ _ hwr
      have twl : ((zs n ds.st.length).take i).length ≤ 400 := by rw [List.length_take, zs_len]; omega
      obtain ⟨ddx2, S2, W2, dv2, dvs2, dus2, d2, _⟩ := dl2.da.ex
      refine ⟨_, rfl, p, ddx2, _, rfl, d2, K5.dF_no (by decide +kernel), _, rfl, rd_rep (k := 32) rfl (by decide) fun H4 l s4 nl el => ?_⟩
      have dl4 := dl2.same s4
      refine ⟨Z', p, s', _, l, List.replicate 32 0, rfl, dl4.da, el, dl2.no nl, by decide, by rw [w2, List.length_append]; omega, by omega, fun bad => ?_, fun m em hm => ⟨fun bad => ?_, fun _ _ => ⟨fun s2 h2 H' kz da => ?_, fun h2 H' kz da => ?_⟩⟩⟩
      · exfalso
        rw [w1] at bad
        omega
      · exfalso
        rcases bad with z | z
        · exact z rfl
        · exact absurd z (by decide)
      · have em : m = n + i := by omega
        subst em
        obtain ⟨Z2, dl5, f5⟩ := dl4.kz kz da
        refine ⟨_, _, Z2, rfl, ?_, dl5, f.trans ((Fr.same s4).trans f5)⟩
        rw [zs_take hi, wrM_snoc, hwr]
        show (match stepS s' with | none => _ | some s2 => _) = _
        rw [h2]
        rfl
      · obtain ⟨Z2, dl5, f5⟩ := dl4.kz kz da
        refine q2 _ H' Z2 ?_ dl5 (f.trans ((Fr.same s4).trans f5))
        have := wrM_app (l := (zs n ds.st.length).take (i + 1)) (r := (zs n ds.st.length).drop (i + 1)) (s := ds) (x := cutM s' (tnS s')) (by
          rw [zs_take hi, wrM_snoc, hwr]
          show (match stepS s' with | none => _ | some s2 => _) = _
          rw [h2])
        rw [List.take_append_drop] at this
        unfold clM
        rw [this]
    · obtain ⟨y2, s', Z', rfl, hwr, dl2, f⟩ := hI
      have tk : (zs n ds.st.length).take (ds.st.length - n) = zs n ds.st.length := List.take_of_length_le (by rw [zs_len]; exact Nat.le_refl _)
      rw [tk] at hwr
      obtain ⟨w1, w2, w3, w4⟩ := wrM_st _ _ _ hwr
      obtain ⟨ddx2, S2, W2, dv2, dvs2, dus2, d2, _⟩ := dl2.da.ex
      have zl := zs_len n ds.st.length
      refine ⟨_, rfl, p, ddx2, _, rfl, d2, K5.dF_no (by decide +kernel), Z', p, s', rfl, dl2.da, by rw [w2, List.length_append]; omega, by omega, fun s2 h2 H' kz da => ?_, fun h2 H' kz da => ?_⟩
      · obtain ⟨Z2, dl5, f5⟩ := dl2.kz kz da
        exact q1 _ H' Z2 (by unfold clM; rw [hwr]; show fluM s' = _; unfold fluM; rw [h2]) dl5 (f.trans f5)
      · obtain ⟨Z2, dl5, f5⟩ := dl2.kz kz da
        exact q2 _ H' Z2 (by unfold clM; rw [hwr]; show fluM s' = _; unfold fluM; rw [h2]) dl5 (f.trans f5)
def spChkE (PN PV : Addr) : L2.Sp := fun vs H Q _ => ∃ (a : Addr) (xs : List Str), vs = [.ref a] ∧ H a = some (.tup (xs.map V.str)) ∧ T2 PN PV H ∧ (∀ x ∈ xs, x.length ≤ 5000) ∧ (decide (0 < xs.length) && K6.namsB xs 3) = true ∧ ∀ H', ST PN PV H H' → Q .non H'
theorem scChkE : FnScope ["names"] ["names"] (defScope sChkE) := ⟨rfl, rfl, rfl, by decide +kernel, rfl, by decide +kernel, by decide +kernel⟩
theorem ok_chkE {f f1 fI : Addr} {fd fd1 fdI : FuncData} (F : Fun K "check_entries" "check_entries" sChkE f fd) (TO : TxO K mg D fI) (bI : Binds K fdI ["self", "name"] []) (FI : FnOk P w K mg base CX0 1 fI fdI ["self", "name"] (K5.spOInit D)) (ne : PN ≠ PV)
    (FA : K6.FO P w K mg base CX0 3 "are_entries" ["names"] (K6.spAreE K PN) f1 fd1) : FnOk P w K mg base (L2.CX P w) 4 f fd ["names"] (spChkE PN PV) := by
  have sc := scChkE
  refine F.okX sc (fun vs H Q E h => ?_) (fun cdv A outer s H vs Q E hr h => ?_)
  · obtain ⟨a, xs, rfl, _⟩ := h
    rfl
  · obtain ⟨a, xs, rfl, ha, t2, hx, hok, q⟩ := h
    refine ⟨_, (pss_one (ps_if (pt_not (pt_val (pe_call FA.ok hr (by rfl) FA.m FA.kp FA.b .nil pass0 (pa_cons (pv 0) pa_nil))))
      (pss_one (ps_raise rfl (takes_of rfl rfl rfl rfl) (pmk_oex TO.oc TO.ini TO.tyI FI (hr.mono (by decide)) bI .nil pass0 rfl TO.g (pa_cons pe_str pa_nil))))
      pss_nil)), ?_⟩
    refine ⟨_, rfl, a, xs, rfl, ha, t2.n, hx, fun H1 k1 => ⟨_, rfl, ?_⟩⟩
    rw [hok]
    exact iteF (q _ (t2.kpN ne k1))
/-- tuple is the built-in's -/
structure TxB (mg : Str → Option Value) : Prop where
  btuple : mg "tuple" = none
def spFmt (C PC PN PV : Addr) : L2.Sp := fun vs H Q E => ∃ (Z : Addr → Prop) (p e : Addr) (s : DS) (xs : List Str), vs = [.ref p, .ref e] ∧ DL C PN PV Z H p s ∧ H e = some (.tup (xs.map V.str)) ∧ (∀ x ∈ xs, x.length ≤ 5000) ∧ (decide (0 < xs.length) && K6.namsB xs 3) = true ∧ RB (.ent xs) ∧ (blkL 0 [.ent xs]).length ≤ s.st.length ∧
  s.wa = [] ∧ (tnS s).length ≤ 1000 ∧ (∀ s' H' Z', fmM s (.ent xs) = .inr s' → DL C PN PV Z' H' p s' → Fr Z H Z' H' → Q .non H') ∧ ∀ s' H' Z', fmM s (.ent xs) = .inl s' → DL C PN PV Z' H' p s' → Fr Z H Z' H' → E (.ref PC) none H'
theorem scFmt : FnScope ["disk", "entries", "blocks", "at", "block"] ["disk", "entries"] (defScope sFmt) := ⟨rfl, rfl, rfl, by decide +kernel, rfl, by decide +kernel, by decide +kernel⟩
theorem ok_fmt {f f1 f2 f3 m2 : Addr} {fd fd1 fd2 fd3 md2 : FuncData} (F : Fun K "format_disk" "format_disk" sFmt f fd) (T : Txt K mg) (T2' : TxB mg) (T3 : K5.Txt3 mg) (TD : TxD K mg C)
    (FE : K5.FO P w K mg base (L2.CX P w) 4 "check_entries" ["names"] (spChkE PN PV) f1 fd1) (FB : K5.FO P w K mg base CX0 3 "blocks_of" ["rows", "first"] spBlk f2 fd2) (FC : K5.FO P w K mg base (L2.CX P w) 7 "clear" ["disk", "first"] (spClear C PC PN PV) f3 fd3)
    (MW : MO P w K mg base (L2.CX P w) 6 C "write" ["self", "at", "block"] (K5.spWrite C D PC) m2 md2) : FnOk P w K mg base (L2.CX P w) 8 f fd ["disk", "entries"] (spFmt C PC PN PV) := by
  have sc := scFmt
  have T2 := T2'
  refine F.okX sc (fun vs H Q E h => ?_) (fun cdv A outer s H vs Q E hr h => ?_)
  · obtain ⟨Z, p, e, s, xs, rfl, _⟩ := h
    rfl
  · obtain ⟨Z, p, e, ds, xs, rfl, dl, he, hx, hok, hrb, hfit, hw, ht, q1, q2⟩ := h
    refine ⟨_, (pss_cons (ps_expr (pe_call FE.ok (hr.mono (by decide)) (by rfl) FE.m FE.kp FE.b .nil passE (pa_cons (pv 1) pa_nil)))
      (pss_cons (ps_set (i := 2) sc.nd rfl (Or.inl rfl) (pe_call FB.ok (hr.mono (by decide)) (by rfl) FB.m FB.kp FB.b .nil pass0 (pa_cons (pe_lst (pa_cons (pe_tup (pa_cons pe_str (pa_cons (pe_callTy call_tuple_of (by rfl) T2.btuple (by decide +kernel) (pa_cons (pv 1) pa_nil)) pa_nil))) pa_nil)) (pa_cons pe_int pa_nil))))
      (pss_cons (ps_for (passes_of rfl) rfl (pi_enum rfl T3.enumerate (pa_cons (pv 2) pa_nil)) (pg_tup rfl (pgs_cons (pg_name (i := 3) sc.nd rfl (Or.inl rfl)) (pgs_cons (pg_name (i := 4) sc.nd rfl (Or.inl rfl)) pgs_nil)))
      (pss_one (ps_expr (pe_meth (pv 0) TD.cl MW.mt MW.ok (hr.mono (by decide)) MW.bi .nil passE (pa_cons (pv 3) (pa_cons (pv 4) pa_nil))))))
      (pss_one (ps_expr (pe_call FC.ok hr (by rfl) FC.m FC.kp FC.b .nil passE (pa_cons (pv 0) (pa_cons (pe_callB call_len_seq (by rfl) T.len (by decide +kernel) (pa_cons (pv 2) pa_nil)) pa_nil)))))))), ?_⟩
    refine ⟨_, rfl, e, xs, rfl, he, dl.t2, hx, hok, fun H1 st1 => ?_⟩
    have dl1 := dl.st st1
    have he1 := st1.k _ _ (fun ps z => by cases z) he
    refine nxp ?_
    refine ⟨_, rfl, e, _, rfl, .inr ⟨SqT.of he1, two_le, fun t nt => ⟨(by show 1 ≤ sizeLine; decide), fun l nl => ?_⟩⟩⟩
    have s1 : Same H1 (upd (upd H1 t (.tup [.str "entries", .ref e])) l (.lst [.ref t])) := K5.snew (Same.lst (Same.refl H1) nt) nl
    have ntl : t ≠ l := fun z => by rw [← z, upd_same] at nl; cases nl
    have et : upd (upd H1 t (.tup [.str "entries", .ref e])) l (.lst [.ref t]) t = some (.tup [.str "entries", .ref e]) := by rw [upd_ne ntl]; exact upd_same
    have el : upd (upd H1 t (.tup [.str "entries", .ref e])) l (.lst [.ref t]) l = some (.lst [.ref t]) := upd_same
    have ee := s1 _ _ he1
    generalize upd (upd H1 t (.tup [.str "entries", .ref e])) l (.lst [.ref t]) = H2 at *
    have rx : RecAt H2 t (.ent xs) := ⟨e, et, fun l' e' => by cases e'; exact ee⟩
    refine ⟨l, [.ref t], [.ent xs], 0, rfl, el, .cons ⟨t, rfl, rx⟩ .nil, fun x hx => by rw [List.mem_singleton.mp hx]; exact hrb.1, Nat.le_of_ble_eq_true rfl, by decide, fun H3 D us s3 nD eD bl fr => ?_⟩
    have lu := pairLen bl
    obtain ⟨bs, ebs⟩ : ∃ bs, bs = blkL 0 [.ent xs] := ⟨_, rfl⟩
    rw [← ebs] at bl lu hfit
    have dl2 := dl1.same s1
    have dl3 := dl2.same s3
    have f03 : Fr Z H Z H3 := (Fr.st st1).trans ((Fr.same s1).trans (Fr.same s3))
    have zD : ¬ Z D := dl2.no nD
    have hst : ds.st.length ≤ 400 := dl.da.hi
    refine nxp ?_
    refine ⟨_, rfl, D, us, rfl, SqL.of eD, ?_⟩
    refine for_it (walk_enum (K := K) (a := D) (xs := us)) (fun i σ H' => ∃ (y3 y4 : Option V) (s' : DS) (Z' : Addr → Prop), σ = [some (.ref p), some (.ref e), some (.ref D), y3, y4] ∧ wrM ds ((plc 0 bs).take i) = .inr s' ∧ DL C PN PV Z' H' p s' ∧ Fr Z H3 Z' H')
      ⟨none, none, ds, Z, rfl, rfl, dl3, Fr.refl Z H3⟩ (fun i σ H' _ hI => ?_) (fun i v σ H4 H5 hi hI y => ?_) (fun σ H' hI => ?_)
    · obtain ⟨y3, y4, s', Z', _, _, _, f⟩ := hI
      exact SqL.of (f D _ zD (fun ps z => by cases z) eD).1
    · obtain ⟨y3, y4, s', Z', rfl, hwr, dl4, f⟩ := hI
      obtain ⟨Tq, v1, v2, rfl, nT, rfl, e1, e2⟩ := y
      cases e1
      obtain ⟨b, hb, q, rfl, hq⟩ := pairAt bl e2
      have nq : ¬ Z q := by
        obtain ⟨q', e', n'⟩ := fr _ (List.mem_of_getElem? e2)
        cases e'
        exact dl2.no n'
      obtain ⟨b32, bok⟩ := blkL_mem 0 (xs := [.ent xs]) (fun x hx => by rw [List.mem_singleton.mp hx]; exact hrb) (Nat.le_of_ble_eq_true rfl) (by rw [← ebs]; exact List.mem_of_getElem? hb)
      have fq := f q _ nq (fun ps z => by cases z) hq
      have s5 : Same H4 (upd H4 Tq (.tup [.int (i : Nat), .ref q])) := Same.lst (Same.refl H4) nT
      refine ⟨Tq, _, rfl, SqT.of upd_same, rfl, _, _, rfl, _, _, rfl, rfl, ?_⟩
      generalize upd H4 Tq (.tup [.int (i : Nat), .ref q]) = H5 at *
      have dl5 := dl4.same s5
      obtain ⟨ddx, S, W, dv, dvs, dus, d1, _⟩ := dl5.da.ex
      obtain ⟨w1, w2, w3, w4⟩ := wrM_st _ _ _ hwr
      have il : i < bs.length := by omega
      have twl : ((plc 0 bs).take i).length ≤ 400 := by rw [List.length_take, plc_len]; omega
      have w20 : s'.wa.length ≤ 400 := by rw [w2, hw, List.nil_append]; exact twl
      refine ⟨_, rfl, p, ddx, _, rfl, d1, K5.dF_no (by decide +kernel), _, rfl, _, rfl, Z', p, s', ((i : Nat) : Int), q, b, rfl, dl5.da, s5 _ _ fq.1, fq.2, by omega, by omega, by omega, fun bad => ?_, fun n en hn => ⟨fun bad => ?_, fun _ _ => ⟨fun s2 h2 H' kz da => ?_, fun h2 H' kz da => ?_⟩⟩⟩
      · exfalso
        rw [w1] at bad
        omega
      · exfalso
        rcases bad with z | z
        · exact z b32
        · rw [bok] at z; cases z
      · have en : n = 0 + i := by omega
        subst en
        obtain ⟨Z2, dl6, f6⟩ := dl5.kz kz da
        refine ⟨_, _, _, Z2, rfl, ?_, dl6, f.trans ((Fr.same s5).trans f6)⟩
        rw [plc_take hb, wrM_snoc, hwr]
        show (match stepS s' with | none => _ | some s2 => _) = _
        rw [h2]
      · obtain ⟨Z2, dl6, f6⟩ := dl5.kz kz da
        refine q2 _ H' Z2 ?_ dl6 (f03.trans (f.trans ((Fr.same s5).trans f6)))
        have := wrM_app (l := (plc 0 bs).take (i + 1)) (r := (plc 0 bs).drop (i + 1)) (s := ds) (x := cutM s' (tnS s')) (by
          rw [plc_take hb, wrM_snoc, hwr]
          show (match stepS s' with | none => _ | some s2 => _) = _
          rw [h2])
        rw [List.take_append_drop] at this
        unfold fmM
        rw [← ebs, this]
    · obtain ⟨y3, y4, s', Z', rfl, hwr, dl4, f⟩ := hI
      have tk : (plc 0 bs).take us.length = plc 0 bs := List.take_of_length_le (by rw [plc_len]; omega)
      rw [tk] at hwr
      obtain ⟨w1, w2, w3, w4⟩ := wrM_st _ _ _ hwr
      have fD := f D _ zD (fun ps z => by cases z) eD
      have pl := plc_len 0 bs
      have w20 : s'.wa.length ≤ 400 := by rw [w2, hw, List.nil_append]; omega
      refine ⟨_, rfl, _, rfl, D, us, rfl, .inl (SqL.of fD.1), Z', p, s', bs.length, by rw [lu]; rfl, dl4, by rw [w1]; exact hfit, w20, by omega, fun s2 H6 Z6 h6 dl6 f6 => ?_, fun s2 H6 Z6 h6 dl6 f6 => ?_⟩
      · exact q1 s2 H6 Z6 (by unfold fmM; rw [← ebs, hwr]; exact h6) dl6 (f03.trans (f.trans f6))
      · exact q2 s2 H6 Z6 (by unfold fmM; rw [← ebs, hwr]; exact h6) dl6 (f03.trans (f.trans f6))
end
end K7

set_option maxRecDepth 100000
set_option maxHeartbeats 4000000
/-! text_at -/
namespace K7
open PySem hiding Tok code
open PySem.Spec PyProof.Rows GD K1
open L2 hiding rest
open K6 (Rec RecAt RecSm wR spWRec recV recA T2 ST)
open K4 (Blks BlkV encR iv decO DecV)
open K5 (DS DA Kz grow rdM stepS tnS cutM flM MO TxD TxP TxO passE z32)
abbrev sTxt : Stmt := topS 72
theorem passN {X : Cx} {P : Program} {w : World} : Passes (L2.CX P w) X (fun _ _ _ => False) := fun _ _ _ _ _ _ _ ⟨_, _, _, _, _, _, _, _, _, _, _, _, h⟩ => h.elim
structure TxM (mg : Str → Option Value) : Prop where
  min : mg "min" = none
/-- the blocks that a text at `at` would have, and what they tell -/
def bksM (s : DS) (a : Nat) (m : Int) : List (List Int) := (List.range m.toNat).map fun k => rdM s (a + k)
def txM (s : DS) (a n : Nat) : Option (List Nat) :=
  if a = s.st.length then none else match decO (rdM s a) with
  | none => none
  | some (_, m, _, _) => if (if ((s.st.length : Nat) : Int) - ((a : Nat) : Int) < 30 then ((s.st.length : Nat) : Int) - ((a : Nat) : Int) else 30) < m then none else
    match (bksM s a m).mapM decO with
    | none => none
    | some ps => if PyData.eqv (K4.blkD (encR (n : Nat) (ps.flatMap fun q => q.2.2.2))) (K4.blkD (bksM s a m)) = true then some (ps.flatMap fun q => q.2.2.2) else none
theorem decO_some {b : List Int} {i m n : Int} {p : List Nat} (h : decO b = some (i, m, n, p)) : m ∈ b ∧ p.length ≤ 24 ∧ ∀ c ∈ p, K4.isCh c = true := by
  match b, h with
  | b0 :: b1 :: b2 :: b3 :: b4 :: b5 :: r, h =>
    rw [K4.decO_eq] at h
    by_cases h1 : b0 ≠ 83 ∨ r[25]? ≠ some 83
    · rw [if_pos h1] at h; cases h
    rw [if_neg h1] at h
    by_cases h2 : b2 ≤ b1 ∨ ¬ (1 ≤ b5 ∧ b5 ≤ 24)
    · rw [if_pos h2] at h; cases h
    rw [if_neg h2] at h
    by_cases h3 : ((r.drop b5.toNat).take (25 - b5.toNat)).any (fun c => !decide (c = 0)) = true
    · rw [if_pos h3] at h; cases h
    rw [if_neg h3] at h
    by_cases h4 : K4.okc (r.take b5.toNat) = true
    · rw [if_pos h4] at h
      cases h
      refine ⟨by simp, ?_, fun c hc => ?_⟩
      · rw [List.length_map, List.length_take]; omega
      · obtain ⟨y, hy, rfl⟩ := List.mem_map.mp hc
        have := List.all_eq_true.mp h4 y hy
        exact (K4.okc1_iff.mp this).2
    · rw [if_neg h4] at h; cases h
def oD : Option (Int × Int × Int × List Nat) → PyData
  | none => .none
  | some (i, m, n, p) => K4.tolD i m n p
theorem DecV.keep {H H' : Hp} (k : ∀ q xs, H q = some (.tup xs) → H' q = some (.tup xs)) {v : V} {o : Option (Int × Int × Int × List Nat)} (h : DecV H v o) : DecV H' v o := by
  match o, h with
  | none, h => exact h
  | some (i, m, n, p), ⟨q, e, h⟩ => exact ⟨q, e, k _ _ h⟩
theorem DecV.dp {K : PySem.W.Frag} {H : Hp} {v : V} {o : Option (Int × Int × Int × List Nat)} (h : DecV H v o) : Dp K H v (oD o) := by
  match o, h with
  | none, h =>
    have h : v = .non := h
    rw [h]; exact .non
  | some (i, m, n, p), ⟨q, e, h2⟩ =>
    subst e
    exact .tup (SqT.of h2) (.cons (.int _) (.cons (.int _) (.cons (.int _) (.cons (.str _) .nil))))
theorem oD_dp (o : Option (Int × Int × Int × List Nat)) : (oD o).depth ≤ 1 := by
  match o with
  | none => unfold oD; rw [PyData.depth]; omega
  | some (i, m, n, p) =>
    unfold oD K4.tolD
    simp only [PyData.depth, PyData.depthAll]
    decide
theorem sum24 : ∀ l : List Nat, (∀ x ∈ l, x ≤ 24) → l.sum ≤ 24 * l.length
  | [], _ => Nat.zero_le _
  | x :: r, h => by
    have := sum24 r fun y hy => h y (List.mem_cons_of_mem _ hy)
    have := h x (List.mem_cons_self ..)
    rw [List.sum_cons, List.length_cons]
    omega
def DecVs (H : Hp) : List V → List (Option (Int × Int × Int × List Nat)) → Prop := Paired (DecV H)
theorem DecVs.keep {H H' : Hp} (k : ∀ q xs, H q = some (.tup xs) → H' q = some (.tup xs)) {vs : List V} {os : List (Option (Int × Int × Int × List Nat))} (h : DecVs H vs os) : DecVs H' vs os := pairImp (fun _ _ h => DecV.keep k h) h
theorem DecVs.dp {K : PySem.W.Frag} {H : Hp} {vs : List V} {os : List (Option (Int × Int × Int × List Nat))} (h : DecVs H vs os) : DpAll K H vs (os.map oD) := by
  induction h with
  | nil => exact .nil
  | cons a _ ih => exact .cons (DecV.dp a) ih
theorem pairSnoc {α β : Type} {R : α → β → Prop} {l : List α} {m : List β} {a : α} {b : β} (h : Paired R l m) (k : R a b) : Paired R (l ++ [a]) (m ++ [b]) := pairApp h (.cons k .nil)
theorem any_none : ∀ os : List (Option (Int × Int × Int × List Nat)), ((os.map oD).any fun z => PyData.eqv z .none) = os.any fun o => o.isNone
  | [] => rfl
  | none :: r => by rw [List.map_cons, List.any_cons, List.any_cons, any_none r]; rfl
  | some (i, m, n, p) :: r => by rw [List.map_cons, List.any_cons, List.any_cons, any_none r]; rfl
theorem mapM_some {bs : List (List Int)} (h : ((bs.map decO).any fun o => o.isNone) = false) : ∃ ps, bs.mapM decO = some ps ∧ bs.map decO = ps.map some := by
  induction bs with
  | nil => exact ⟨[], rfl, rfl⟩
  | cons b r ih =>
    rw [List.map_cons, List.any_cons, Bool.or_eq_false_iff] at h
    obtain ⟨ps, e1, e2⟩ := ih h.2
    cases hb : decO b with
    | none => rw [hb] at h; cases h.1
    | some x =>
      refine ⟨x :: ps, ?_, by rw [List.map_cons, hb, e2]; rfl⟩
      rw [List.mapM_cons, hb, e1]
      rfl
theorem mapM_none {bs : List (List Int)} (h : ((bs.map decO).any fun o => o.isNone) = true) : bs.mapM decO = none := by
  induction bs with
  | nil => cases h
  | cons b r ih =>
    rw [List.map_cons, List.any_cons, Bool.or_eq_true] at h
    rw [List.mapM_cons]
    cases hb : decO b with
    | none => rfl
    | some x =>
      rw [hb] at h
      rw [ih (h.resolve_left (by intro z; cases z))]
      rfl
theorem joinL_nil : ∀ ls : List (List Nat), TL.joinL (TL.tl (Str.ofString "")) ls = ls.flatten
  | [] => rfl
  | [p] => by show p = p ++ []; rw [List.append_nil]
  | p :: q :: r => by
    show p ++ ([] ++ TL.joinL (TL.tl (Str.ofString "")) (q :: r)) = p ++ (q :: r).flatten
    rw [joinL_nil (q :: r), List.nil_append]
theorem join_flat (ls : List (List Nat)) : Txt.join (Str.ofString "") (ls.map S) = S ls.flatten := by
  have e : (Txt.join (Str.ofString "") (ls.map S)).cps.toList = ls.flatten := by
    unfold Txt.join
    rw [StrLaws.glued_eq_join]
    refine (TL.tl_join (Str.ofString "") (ls.map S)).trans ?_
    rw [List.map_map, show (TL.tl ∘ S) = (id : List Nat → List Nat) from rfl, List.map_id]
    exact joinL_nil ls
  have := S_of (Txt.join (Str.ofString "") (ls.map S))
  rw [e] at this
  exact this.symm
section
variable {P : Program} {w : World} {K : PySem.W.Frag} {mg : Str → Option Value} {base : Heap} {C CL NO LF PC D PN PV : Addr}
def spTxt (C : Addr) : L2.Sp := fun vs H Q _ => ∃ (Z : Addr → Prop) (p : Addr) (s : DS) (a n : Nat), vs = [.ref p, .int (a : Nat), .int (n : Nat)] ∧ DA C Z H p s ∧ a ≤ s.st.length ∧ (∀ i < s.st.length, (rdM s i).length = 32 ∧ ∀ y ∈ rdM s i, 0 ≤ y ∧ y ≤ 255) ∧
  ∀ H', Same H H' → Q (match txM s a n with | none => .non | some L => .str (S L)) H'
theorem scTxt : FnScope ["disk", "at", "number", "first", "many", "blocks", "place", "pieces", "block", "text", "piece"] ["disk", "at", "number"] (defScope sTxt) := ⟨rfl, rfl, rfl, by decide +kernel, rfl, by decide +kernel, by decide +kernel⟩
theorem ok_txt {f f1 f2 m1 m2 : Addr} {fd fd1 fd2 md1 md2 : FuncData} (F : Fun K "text_at" "text_at" sTxt f fd) (T : Txt K mg) (T2' : TxM mg) (TD : TxD K mg C) (TPM : ∃ t, mg "PIECES_MOST" = some (.int 30 t))
    (FD : K4.FO P w K mg base CX0 2 "decode_piece" ["block"] (K4.spDec K) f1 fd1) (FE : K4.FO P w K mg base CX0 2 "encode_record" ["number", "text"] K4.spEncR f2 fd2)
    (MS : MO P w K mg base CX0 1 C "size" ["self"] (K5.spSize C) m1 md1) (MR : MO P w K mg base (L2.CX P w) 4 C "read" ["self", "at"] (K5.spRead C D) m2 md2) : FnOk P w K mg base (L2.CX P w) 5 f fd ["disk", "at", "number"] (spTxt C) := by
  have sc := scTxt
  have T2 := T2'
  obtain ⟨t1, gPM⟩ := TPM
  refine F.okX sc (fun vs H Q E h => ?_) (fun cdv A outer s H vs Q E hr h => ?_)
  · obtain ⟨Z, p, s, a, n, rfl, _⟩ := h
    rfl
  · obtain ⟨Z, p, ds, a, n, rfl, da, ha, h32, q⟩ := h
    have hu65 : (A.deeper (envOfC "text_at" (defScope sTxt) s.heap.objs.size f cdv)).units + 65 < cLine := by have := hr.un; omega
    refine ⟨_, (pss_cons (ps_set (i := 3) sc.nd rfl (Or.inl rfl) (pe_ifExp (pt_cmpR op_eq (pv 1) (pe_meth0 (pv 0) TD.cl MS.mt MS.ok (hr.mono (by decide)) MS.bi .nil pass0) (nomark _)) pe_non (pe_call FD.ok (hr.mono (by decide)) (by rfl) FD.m FD.kp FD.b .nil pass0 (pa_cons (pe_meth (pv 0) TD.cl MR.mt MR.ok hr MR.bi .nil passN (pa_cons (pv 1) pa_nil)) pa_nil))))
      (pss_cons (ps_if (pt_cmpR op_isN (pv 3) pe_non (nomark _))
      (pss_one (ps_ret pe_non))
      pss_nil)
      (pss_cons (ps_set (i := 4) sc.nd rfl (Or.inl rfl) (pe_ix ix_tup (pv 3) pe_int (fun _ _ => rfl)))
      (pss_cons (ps_if (pt_cmpR op_gt (pv 4) (pe_callB (call_min2 rfl) (by rfl) T2.min (by decide +kernel) (pa_cons (pe_gint rfl gPM) (pa_cons (pe_op op_sub (pe_meth0 (pv 0) TD.cl MS.mt MS.ok (hr.mono (by decide)) MS.bi .nil pass0) (pv 1)) pa_nil))) (nomark _))
      (pss_one (ps_ret pe_non))
      pss_nil)
      (pss_cons (ps_setLc (i := 5) (own := [("place", 6)]) rfl sc.nd rfl rfl (sw_true rfl rfl rfl (by decide +kernel)) (pi_range2 rfl T.range (pa_cons (pv 1) (pa_cons (pe_op op_add (pv 1) (pv 4)) pa_nil))) (blkOk_by (own := [("place", 6)]) (N := ["disk", "at", "number", "first", "many", "blocks", "place", "pieces", "block", "text", "piece"]) (sc := defScope sTxt) (by decide +kernel)) (fun _ _ _ _ _ => (pg_name (i := 6) sc.nd rfl (Or.inl rfl))) (fun _ _ _ _ _ => pts_nil) (fun _ _ _ _ _ => (pe_meth (pv 0) TD.cl MR.mt MR.ok hr MR.bi .nil passN (pa_cons (pv 6) pa_nil))))
      (pss_cons (ps_setLc (i := 7) (own := [("block", 8)]) rfl sc.nd rfl rfl (sw_true rfl rfl rfl (by decide +kernel)) (pi_list (pv 5)) (blkOk_by (own := [("block", 8)]) (N := ["disk", "at", "number", "first", "many", "blocks", "place", "pieces", "block", "text", "piece"]) (sc := defScope sTxt) (by decide +kernel)) (fun _ _ _ _ _ => (pg_name (i := 8) sc.nd rfl (Or.inl rfl))) (fun _ _ _ _ _ => pts_nil) (fun _ _ _ _ _ => (pe_call FD.ok (hr.mono (by decide)) (by rfl) FD.m FD.kp FD.b .nil pass0 (pa_cons (pv 8) pa_nil))))
      (pss_cons (ps_if (pt_cmpR (op_inD hu65) pe_non (pv 7) rfl)
      (pss_one (ps_ret pe_non))
      pss_nil)
      (pss_cons (ps_set (i := 9) sc.nd rfl (Or.inl rfl) (pe_join pe_str (pe_lc (own := [("piece", 10)]) rfl sc.nd (pi_list (pv 7)) (blkOk_by (own := [("piece", 10)]) (N := ["disk", "at", "number", "first", "many", "blocks", "place", "pieces", "block", "text", "piece"]) (sc := defScope sTxt) (by decide +kernel)) (fun _ _ _ _ _ => (pg_name (i := 10) sc.nd rfl (Or.inl rfl))) (fun _ _ _ _ _ => pts_nil) (fun _ _ _ _ _ => (pe_ix (show IxR _ (rIxT K) from ix_tup) (pv 10) pe_int (fun _ _ => rfl))))))
      (pss_one (ps_ret (pe_ifExp (pt_cmpR (op_eqD hr.units) (pe_call FE.ok (hr.mono (by decide)) (by rfl) FE.m FE.kp FE.b .nil pass0 (pa_cons (pv 2) (pa_cons (pv 9) pa_nil))) (pv 5) (nomark _)) (pv 9) pe_non))))))))))), ?_⟩
    obtain ⟨ddx, S0, W0, dv0, dvs0, dus0, d1, _⟩ := da.ex
    have hst : ds.st.length ≤ 400 := da.hi
    refine ⟨_, rfl, _, rfl, p, ddx, _, rfl, d1, K5.dF_no (by decide +kernel), Z, p, ds, rfl, da, rfl, _, rfl, ?_⟩
    by_cases ea : a = ds.st.length
    · refine K5.iteY (decide_eq_true (by rw [ea])) ?_
      refine ⟨_, rfl, rfl, _, rfl, iteT ?_⟩
      have := q H (Same.refl H)
      unfold txM at this
      rw [if_pos ea] at this
      exact this
    refine K5.iteE (decide_eq_false fun z => ea (by injection z with z; omega)) ?_
    have la : a < ds.st.length := by omega
    refine ⟨_, rfl, p, ddx, _, rfl, d1, K5.dF_no (by decide +kernel), _, rfl, Z, p, ds, ((a : Nat) : Int), rfl, da, fun n0 en hn H1 q1 s1 n1 e1 => ?_, fun bad => by exfalso; omega⟩
    have en : n0 = a := by omega
    subst en
    refine ⟨q1, rdM ds n0, rfl, SqL.of e1, (h32 n0 la).1, fun H2 v s2 dv => ?_⟩
    have s12 : Same H H2 := fun b o e => s2 _ _ (s1 _ _ e)
    unfold txM at q
    rw [if_neg ea] at q
    cases hd : decO (rdM ds n0) with
    | none =>
      rw [hd] at dv q
      have dv : v = .non := dv
      subst dv
      exact ⟨_, rfl, rfl, _, rfl, iteT (q _ s12)⟩
    | some t =>
      obtain ⟨i0, m, num, pp⟩ := t
      rw [hd] at dv q
      obtain ⟨q2, rfl, h2⟩ := dv
      obtain ⟨dm, _, _⟩ := decO_some hd
      obtain ⟨m0, m255⟩ := (h32 n0 la).2 m dm
      dsimp only at q
      refine ⟨_, rfl, rfl, _, rfl, iteF ?_⟩
      refine ⟨_, rfl, q2, _, _, _, rfl, rfl, SqT.of h2, atI_nat (j := 1) rfl, ?_⟩
      refine ⟨_, rfl, _, rfl, p, ddx, _, rfl, s12 _ _ d1, K5.dF_no (by decide +kernel), Z, p, ds, rfl, da.sm s12, _, rfl, _, _, rfl, rfl, _, _, rfl, _, _, rfl, rfl, _, rfl, ?_⟩
      by_cases hm : (if ((ds.st.length : Nat) : Int) - ((n0 : Nat) : Int) < 30 then ((ds.st.length : Nat) : Int) - ((n0 : Nat) : Int) else 30) < m
      · refine K5.iteY (decide_eq_true hm) ?_
        rw [if_pos hm] at q
        exact q _ s12
      refine K5.iteE (decide_eq_false hm) ?_
      rw [if_neg hm] at q
      have hm2 : m ≤ 30 ∧ ((n0 : Nat) : Int) + m ≤ (ds.st.length : Nat) := by
        by_cases z : ((ds.st.length : Nat) : Int) - ((n0 : Nat) : Int) < 30
        · rw [if_pos z] at hm; omega
        · rw [if_neg z] at hm; omega
      obtain ⟨k0, rfl⟩ : ∃ k : Nat, m = k := ⟨m.toNat, by omega⟩
      refine nxp ?_
      refine ⟨_, rfl, _, rfl, _, rfl, _, _, rfl, rfl, _, _, rfl, ⟨by omega, by omega, by omega, by omega⟩, fun D1 nD1 => ?_⟩
      have en : (((n0 : Nat) : Int) + ((k0 : Nat) : Int) - ((n0 : Nat) : Int)).toNat = k0 := by omega
      rw [en]
      have eb : ∀ j, (List.range (j + 1)).map (fun k => rdM ds (n0 + k)) = (List.range j).map (fun k => rdM ds (n0 + k)) ++ [rdM ds (n0 + j)] := fun j => by rw [List.range_succ, List.map_append]; rfl
      refine lc_it (walk_range (lo := ((n0 : Nat) : Int)) (n := k0)) (fun j H' => ∃ us, Same H2 H' ∧ H' D1 = some (.lst us) ∧ K4.BlkD D1 H' us ((List.range j).map fun k => rdM ds (n0 + k))) ⟨[], Same.lst (Same.refl _) nD1, upd_same, .nil⟩ (fun _ _ _ _ => trivial) (fun j x H3 H4 hj pv y => ?_) (fun H3 pv => ?_)
      · obtain ⟨us, s3, eD, bl⟩ := pv
        obtain ⟨rfl, rfl⟩ := y
        have s13 : Same H H4 := fun b o e => s3 _ _ (s12 _ _ e)
        refine ⟨rfl, _, rfl, p, ddx, _, rfl, s13 _ _ d1, K5.dF_no (by decide +kernel), _, rfl, Z, p, ds, _, rfl, da.sm s13, fun n2 en2 hn2 H5 q5 s5 n5 e5 => ?_, fun bad => by exfalso; omega⟩
        have en2 : n2 = n0 + j := by omega
        subst en2
        have lb := pairLen bl
        rw [List.length_map, List.length_range] at lb
        have nq : q5 ≠ D1 := fun z => by rw [z, eD] at n5; cases n5
        refine ⟨us, s5 _ _ eD, szlt (by omega), us ++ [.ref q5], fun b o e => by rw [upd_ne (ne_of_none e nD1)]; exact s5 _ _ (s3 _ _ e), upd_same, ?_⟩
        rw [eb]
        exact K4.BlkD.snoc (bl.up fun b o n e => by rw [upd_ne n]; exact s5 _ _ e) nq (by rw [upd_ne nq]; exact e5)
      obtain ⟨us, s3, eD, bl⟩ := pv
      obtain ⟨bs, ebs⟩ : ∃ bs, bs = bksM ds n0 ((k0 : Nat) : Int) := ⟨_, rfl⟩
      have ebs2 : (List.range k0).map (fun k => rdM ds (n0 + k)) = bs := by rw [ebs]; unfold bksM; rw [Int.toNat_natCast]
      rw [ebs2] at bl
      rw [← ebs] at q
      have bl := bl.blks
      have lb := pairLen bl
      have lbs : bs.length = k0 := by rw [← ebs2, List.length_map, List.length_range]
      have b32 : ∀ b ∈ bs, b.length = 32 := fun b hb => by
        rw [← ebs2] at hb
        obtain ⟨k, hk, rfl⟩ := List.mem_map.mp hb
        have := List.mem_range.mp hk
        exact (h32 _ (by omega)).1
      have s13 : Same H H3 := fun b o e => s3 _ _ (s12 _ _ e)
      refine nxp ?_
      refine ⟨_, rfl, D1, rfl, ⟨_, SqL.of eD⟩, fun D2 nD2 => ?_⟩
      have n12 : D1 ≠ D2 := ne_of_none eD nD2
      refine lc_it (walk_list (K := K) (a := D1) (xs := us)) (fun j H' => ∃ ws, Same H3 H' ∧ H' D2 = some (.lst ws) ∧ DecVs H' ws ((bs.take j).map decO)) ⟨[], Same.lst (Same.refl _) nD2, upd_same, .nil⟩ (fun j H' _ pv => ?_) (fun j x H4 H5 hj pv y => ?_) (fun H4 pv => ?_)
      · obtain ⟨_, s4, _⟩ := pv
        exact SqL.of (s4 _ _ eD)
      · obtain ⟨ws, s4, eD2, dvs⟩ := pv
        obtain ⟨rfl, hv⟩ := y
        obtain ⟨b, hb, q4, rfl, hq⟩ := pairAt bl hv
        refine ⟨rfl, _, rfl, q4, b, rfl, SqL.of (s4 _ _ hq), b32 b (List.mem_of_getElem? hb), fun H6 v6 s6 dv6 => ?_⟩
        have lw := pairLen dvs
        rw [List.length_map, List.length_take] at lw
        have up : ∀ q xs, H6 q = some (.tup xs) → upd H6 D2 (.lst (ws ++ [v6])) q = some (.tup xs) := fun q xs e => by rw [upd_ne (ne_of e (s6 _ _ eD2) (by intro z; cases z))]; exact e
        refine ⟨ws, s6 _ _ eD2, szlt (by omega), ws ++ [v6], fun b o e => by rw [upd_ne (ne_of_none e nD2)]; exact s6 _ _ (s4 _ _ e), upd_same, ?_⟩
        have tk : (bs.take (j + 1)).map decO = (bs.take j).map decO ++ [decO b] := by rw [List.take_add_one, hb, List.map_append]; rfl
        rw [tk]
        exact pairSnoc (DecVs.keep (fun q xs e => up q xs (s6 _ _ e)) dvs) (DecV.keep up dv6)
      obtain ⟨ws, s4, eD2, dvs⟩ := pv
      rw [lb, List.take_length] at dvs
      have s14 : Same H H4 := fun b o e => s4 _ _ (s13 _ _ e)
      refine nxp ?_
      have pch : ∀ o ∈ bs.map decO, SeqAt.shaped (oD o) = true := fun o ho => by
        obtain ⟨b, hb, rfl⟩ := List.mem_map.mp ho
        cases h9 : decO b with
        | none => rfl
        | some t =>
          obtain ⟨i9, m9, n9, p9⟩ := t
          exact K4.tolD_sh (decO_some h9).2.2
      have shl : SeqAt.shaped (.list ((bs.map decO).map oD)) = true := by
        refine K4.sh_of (K4.cl_all fun d hd => ?_) ?_
        · obtain ⟨o, ho, rfl⟩ := List.mem_map.mp hd
          have := pch o ho
          unfold SeqAt.shaped at this
          rw [Bool.and_eq_true] at this
          exact this.1
        · rw [PyData.depth]
          have := K4.dp_all (l := (bs.map decO).map oD) (n := 1) fun d hd => by
            obtain ⟨o, ho, rfl⟩ := List.mem_map.mp hd
            exact oD_dp o
          omega
      refine ⟨_, rfl, .none, (bs.map decO).map oD, .non, .lst (SqL.of eD2) (DecVs.dp dvs), rfl, shl, ?_⟩
      rw [any_none]
      refine ⟨_, rfl, ?_⟩
      cases hn : (bs.map decO).any fun o => o.isNone with
      | true =>
        rw [mapM_none hn] at q
        exact iteT (q _ s14)
      | false =>
        obtain ⟨ps, e1', e2'⟩ := mapM_some hn
        rw [e1'] at q
        rw [e2'] at dvs
        refine iteF ?_
        refine nxp ?_
        have lps : ps.length = k0 := by
          have := congrArg List.length e2'
          rw [List.length_map, List.length_map] at this
          omega
        have p24 : ∀ t ∈ ps, t.2.2.2.length ≤ 24 := fun t ht => by
          have : some t ∈ bs.map decO := by rw [e2']; exact List.mem_map.mpr ⟨t, ht, rfl⟩
          obtain ⟨b, _, hb⟩ := List.mem_map.mp this
          exact (decO_some (i := t.1) (m := t.2.1) (n := t.2.2.1) hb).2.1
        refine ⟨⟨_, rfl⟩, _, rfl, D2, rfl, ⟨_, SqL.of eD2⟩, fun D3 nD3 => ?_⟩
        refine lc_it (walk_list (K := K) (a := D2) (xs := ws)) (fun j H' => Same H4 H' ∧ H' D3 = some (.lst (((ps.take j).map fun t => S t.2.2.2).map V.str))) ⟨Same.lst (Same.refl _) nD3, upd_same⟩ (fun j H' _ pv => SqL.of (pv.1 _ _ eD2)) (fun j x H5 H6 hj pv y => ?_) (fun H5 pv => ?_)
        · obtain ⟨s5, e5⟩ := pv
          obtain ⟨rfl, hv⟩ := y
          obtain ⟨o, ho, dv5⟩ := pairAt dvs hv
          rw [List.getElem?_map, Option.map_eq_some_iff] at ho
          obtain ⟨t9, ht9, rfl⟩ := ho
          obtain ⟨i9, m9, n9, p9⟩ := t9
          obtain ⟨q9, rfl, h9⟩ := dv5
          have tl : (ps.take j).length ≤ 30 := by rw [List.length_take]; omega
          refine ⟨rfl, _, rfl, q9, _, _, _, rfl, rfl, SqT.of (s5 _ _ h9), atI_nat (j := 3) rfl, _, e5, szlt (by rw [List.length_map, List.length_map]; omega), fun b o e => by rw [upd_ne (ne_of_none e nD3)]; exact s5 _ _ e, ?_⟩
          have tk : ps.take (j + 1) = ps.take j ++ [(i9, m9, n9, p9)] := by rw [List.take_add_one, ht9]; rfl
          rw [upd_same, tk, List.map_append, List.map_append]
          rfl
        obtain ⟨s5, e5⟩ := pv
        have lw := pairLen dvs
        rw [List.length_map] at lw
        rw [lw, List.take_length] at e5
        refine ⟨Str.ofString "", D3, ps.map (fun t => S t.2.2.2), rfl, rfl, .inl (SqL.of e5), ?_, ?_⟩
        · have z0 : (Str.ofString "").length = 0 := rfl
          rw [z0, Nat.mul_zero, List.map_map]
          have := sum24 (ps.map ((fun x : Str => x.length) ∘ fun t => S t.2.2.2)) fun x hx => by
            obtain ⟨t, ht, rfl⟩ := List.mem_map.mp hx
            show (S t.2.2.2).length ≤ 24
            rw [S_len]
            exact p24 t ht
          rw [List.length_map] at this
          omega
        have ej : Txt.join (Str.ofString "") (ps.map fun t => S t.2.2.2) = S (ps.flatMap fun q => q.2.2.2) := by
          have := join_flat (ps.map fun t => t.2.2.2)
          rw [List.map_map] at this
          rw [List.flatMap_def]
          exact this
        rw [ej]
        have lf : (ps.flatMap fun q => q.2.2.2).length ≤ 720 := by
          rw [List.length_flatMap]
          have := sum24 (ps.map fun t => t.2.2.2.length) fun x hx => by
            obtain ⟨t, ht, rfl⟩ := List.mem_map.mp hx
            exact p24 t ht
          rw [List.length_map] at this
          omega
        dsimp only at q
        generalize (ps.flatMap fun q => q.2.2.2) = L at *
        have s15 : Same H H5 := fun b o e => s5 _ _ (s14 _ _ e)
        refine ⟨_, rfl, _, rfl, ((n : Nat) : Int), L, rfl, lf, fun H6 D6 w6 s6 n6 e6 b6 f6 => ?_⟩
        have bl6 := (bl.same (fun b o e => s5 _ _ (s4 _ _ e))).same s6
        refine ⟨_, rfl, K4.blkD (encR (n : Nat) L), K4.blkD bs, .lst (SqL.of e6) (K4.blk_dp b6), .lst (SqL.of (s6 _ _ (s5 _ _ (s4 _ _ eD)))) (K4.blk_dp bl6), K4.blkD_sh _, K4.blkD_sh _, _, rfl, ?_⟩
        have s16 : Same H H6 := fun b o e => s6 _ _ (s15 _ _ e)
        cases he : PyData.eqv (K4.blkD (encR (n : Nat) L)) (K4.blkD bs) with
        | true =>
          rw [if_pos he] at q
          exact iteT ⟨_, rfl, q _ s16⟩
        | false =>
          rw [if_neg (by rw [he]; decide)] at q
          exact iteF (q _ s16)
end
end K7

set_option maxRecDepth 100000
set_option maxHeartbeats 8000000
/-! set(names) of a list of texts; has_twice of a list -/
namespace K6
open PySem hiding Tok code
open PySem.Spec PyProof.Rows
section
variable {prog : Program} {w : World} {A : Around} {E : Value → Shared → Prop} {s : Shared}
theorem fillL {l : Addr} {items : Array Value} {xs : List Str} {led : Bool} (hh : A.handled = none) (hl : s.heap.IsList l items) (hi : StrsAre items.toList xs) (room : xs.length + 1 < scanBound)
    {Q : PySem.Fin → Shared → Prop} (q : ∀ h' tk, Made prog w s xs h' → Q (.done (.ret Value.none)) { s with heap := h', toks := tk }) :
    wpAny (model prog w) A (Builtin.«set.__init__» ⟨[.ref s.heap.objs.size, .ref l], []⟩) Q E { s with heap := s.heap.push (emptySet led) } := by
  have lt : l < s.heap.objs.size := by
    obtain ⟨o, ho, _⟩ := hl
    exact Heap.lt_size ho
  have hl1 : (s.heap.push (emptySet led)).IsList l items := hl.push _
  have hsz : xs.length = items.size := by rw [← StrsAre.len_eq hi, Array.length_toList]
  have e1 := PySem.F.sub_list_set
  have e2 := PySem.F.sub_list_frozenset
  have e3 : (Value.type "list" == Value.type "dict") = false := by decide
  have hl2 := hl1
  obtain ⟨ol, hol, hcl, nl, hdl⟩ := hl2
  obtain ⟨ocls, odict, odata, oslots⟩ := ol
  simp only at hcl hdl
  subst hcl; subst hdl
  unfold Builtin.«set.__init__» noKeywords Builtin.Frozenset.updateFrom
  generalize hPI : pyIter = PI
  wp_walk
  subst hPI
  have hS : (s.heap.push (emptySet led)).get? s.heap.objs.size = some (emptySet led) := Heap.get?_push_size _ rfl
  have sz : (s.heap.push (emptySet led)).objs.size = s.heap.objs.size + 1 := Heap.size_push _ _
  refine wpAny_pyIter_list hl1 ?_
  refine wpAny_bind (wpAny_runValue ?_)
  have hneI : l ≠ (s.heap.push (emptySet led)).objs.size := by rw [sz]; exact Nat.ne_of_lt (Nat.lt_succ_of_lt lt)
  have hSf : s.heap.objs.size ∉ [(s.heap.push (emptySet led)).objs.size, l] := by
    rw [sz]
    simp only [List.mem_cons, List.not_mem_nil, or_false, not_or]
    exact ⟨Nat.ne_of_lt (Nat.lt_succ_self _), Nat.ne_of_gt lt⟩
  refine set_loop (n := items.size) ((Walks.list (by simpa using hh) _ l hneI items).toS) hSf hsz (hsz ▸ room) (fun i v hv => SS.strs_at hi i v (by rw [Array.getElem?_toList]; exact hv)) items.size 0 _ (Nat.zero_add _)
    ⟨⟨_, Heap.get?_push_size _ rfl, rfl, rfl⟩, hl1.push _⟩ ?_ fun s' m hS' => ?_
  · exact SetOf_congr ((setObjOf_fresh (knd := strKind prog w) led).setOf (Heap.get?_push_of_some _ hS) (by unfold scanBound; omega)) (fun _ => rfl) rfl
  · obtain ⟨h', g', d', tk', os'⟩ := s'
    obtain rfl : g' = s.gens := m.gens
    obtain rfl : d' = s.drawn := m.drawn
    obtain rfl : os' = s.os := m.os
    rw [← hsz, List.take_length] at hS'
    refine wpAny_pure (wpAny_pure (q h' tk' ⟨hS', fun b o hb e => m.heap b o ?_ (Heap.get?_push_of_some _ (Heap.get?_push_of_some _ e))⟩))
    rw [sz]
    simp only [List.mem_cons, List.not_mem_nil, or_false, not_or]
    exact ⟨Nat.ne_of_lt hb, Nat.ne_of_lt (Nat.lt_succ_of_lt hb)⟩
/-- set(names), names a tuple of texts -/
theorem set_of_list {l : Addr} {items : Array Value} {xs : List Str} (hh : A.handled = none) (hl : s.heap.IsList l items) (hi : StrsAre items.toList xs) (room : xs.length + 1 < scanBound)
    {Q : Value → Shared → Prop} (q : ∀ h' tk, Made prog w s xs h' → Q (.ref s.heap.objs.size) { s with heap := h', toks := tk }) :
    wpAny (model prog w) A (call (.type "set") [.ref l]) Q E s := by
  obtain ⟨c, tl, hmro⟩ := PySem.F.called_set.mro
  have e1 := PySem.F.called_set.made
  have e2 := PySem.F.called_set.sub
  have e3 := PySem.F.called_set.notType
  have e4 := PySem.F.called_set.canCreate
  have e5 := PySem.F.typeCall_set_1 (.ref l)
  refine wpAny_call (codeAny_of_tree ?_)
  show wpAny _ _ (callAny (.type "set") _) _ _ _
  refine wpAny_pure ⟨Code.quiet_builtin _ (by decide +kernel), codeAny_builtin PySem.F.entry_type_call ?_⟩
  rw [Around.under_plain (weight_type_call_type "set" [.ref l] []) rfl]
  repeat (any_goals (first | assumption | wp_step))
  refine codeAny_mono (code_set_new_1 (.ref l) (E := E) (Q₁ := fun x s1 => ∃ led : Bool, x = .ref s.heap.objs.size ∧ s1 = { s with heap := s.heap.push (emptySet led) }) fun led => ⟨led, rfl, rfl⟩) fun r s1 hr => ?_
  match r, hr with
  | .error _, hr => exact hr
  | .ok (.ret x), hr =>
    obtain ⟨led, rfl, rfl⟩ := hr
    have hS : (s.heap.push (emptySet led)).get? s.heap.objs.size = some (emptySet led) := Heap.get?_push_size _ rfl
    have hT : Shared.TypeIs { s with heap := s.heap.push (emptySet led) } (.ref s.heap.objs.size) "set" := ⟨_, hS, rfl⟩
    have e6 := PySem.F.called_set.init.lookup
    have e7 := PySem.F.called_set.init.bind (.ref s.heap.objs.size)
    repeat (any_goals (first | assumption | wp_step))
    refine codeAny_mono (codeAny_call_builtin (R := wants (fun r s2 => r = .none ∧ ∃ h' tk, s2 = { s with heap := h', toks := tk } ∧ Made prog w s xs h') E) PySem.F.called_set.init.plain PySem.F.entry_set_init (check_set_init_1 hT ?_)) fun r2 s2 hr2 => ?_
    · exact fillL (by simpa using hh) hl hi room fun h' tk m => ⟨rfl, h', tk, rfl, m⟩
    · match r2, hr2 with
      | .error _, hr2 => exact hr2
      | .ok (.ret _), hr2 =>
        obtain ⟨rfl, h', tk, rfl, m⟩ := hr2
        repeat (any_goals (first | assumption | wp_step))
        exact q _ _ m
end
end K6
namespace L2
open PySem hiding Tok code
open PySem.Spec PyProof.Rows
section
variable {X : Cx}
def tLenSetL (K : PySem.W.Frag) (ta : TE) : TE := fun σ H Q => ta σ H fun x H1 => ∃ (l : Addr) (xs : List Str), x = .ref l ∧ SqL K H1 l (xs.map V.str) ∧ xs.length ≤ 1000 ∧ Q (.int (K6.difN xs xs.length : Nat)) H1
theorem pe_lenSetL {a : Expr} {ta : TE} {p p2 q pos : Pos} (hc : X.calm = true) (hg : Gl X "len") (hm : X.mg "len" = none) (hg2 : Gl X "set") (hm2 : X.mg "set" = none) (ha : PE X a ta)
    (na : starEach [a] X.env = (false, eval a X.env) :: starEach [] X.env := by rfl) : PE X (.Call (.Name "len" p) [.Call (.Name "set" p2) [a] [] q] [] pos) (tLenSetL X.K ta) := by
  refine ⟨fun pins s σ H Q I h => Call_ (ld_blt I hg hm boot_len ?_)⟩
  refine callWith_builtin1 (args_cons ?_ rfl) rfl rfl
  refine Call_ (ld_blt I hg2 hm2 boot_set ?_)
  refine callWith_type1 (args_cons (thn (ha.run pins s σ H _ I h) fun v s1 ⟨x, H1, I1, r1, q1⟩ => args_nil ?_) na) na rfl
  obtain ⟨l, xs, rfl, hq, h1, q1⟩ := q1
  cases r1
  obtain ⟨its, r, pl0, hz⟩ := I1.list hq
  have pl := pl0.isList
  have le := K6.difN_le xs xs.length
  refine K6.set_of_list (I1.ok.hd hc) pl (by simpa using strsAre_of r) (by unfold scanBound; omega) fun h' tk m => args_nil ?_
  obtain ⟨⟨o, es, ep, t, ho, hex, hd, _, _, _, hf, hn⟩, hk⟩ := m
  have I2 : Inv X pins σ H1 { s1 with heap := h', toks := tk } := I1.kept fun b o e => hk b o (Heap.lt_size e) e
  exact call_len_set ho hex hd hf (by rw [hn]; omega) ⟨.int (K6.difN xs xs.length : Nat), H1, I2.tok _, ⟨_, by rw [hn]⟩, q1⟩
end
end L2
namespace K7
open PySem hiding Tok code
open PySem.Spec PyProof.Rows GD K1
open L2 hiding rest
section
variable {P : Program} {w : World} {K : PySem.W.Frag} {mg : Str → Option Value} {base : Heap}
def spTwL (K : PySem.W.Frag) : L2.Sp := fun vs H Q _ => ∃ (a : Addr) (xs : List Str), vs = [.ref a] ∧ SqL K H a (xs.map V.str) ∧ xs.length ≤ 1000 ∧ Q (.bl (K6.twB xs)) H
theorem scTwL : FnScope ["names"] ["names"] (defScope K6.sTwice) := ⟨rfl, rfl, rfl, by decide +kernel, rfl, by decide +kernel, by decide +kernel⟩
theorem ok_twiceL {f : Addr} {fd : FuncData} (F : Fun K "has_twice" "has_twice" K6.sTwice f fd) (T : Txt K mg) (hset : mg "set" = none) : FnOk P w K mg base CX0 1 f fd ["names"] (spTwL K) := by
  have T3 := T
  have sc := scTwL
  refine F.ok sc (fun vs H Q E h => ?_) (fun cdv A outer s H vs Q E hr h => ?_)
  · obtain ⟨a, xs, rfl, _⟩ := h
    rfl
  · obtain ⟨a, xs, rfl, ha, hl, q⟩ := h
    refine ⟨_, (pss_one (ps_ret (pe_cmpR op_lt (pe_lenSetL rfl (by rfl) T.len (by rfl) hset (pv 0)) (pe_callB call_len_seq (by rfl) T.len (by decide +kernel) (pa_cons (pv 0) pa_nil)) (nomark _)))), ?_⟩
    refine ⟨_, rfl, a, xs, rfl, ha, hl, _, rfl, a, _, rfl, .inl ha, _, _, rfl, rfl, ?_⟩
    have e : K6.twB xs = decide (((K6.difN xs xs.length : Nat) : Int) < ((xs.map V.str).length : Nat)) := by
      unfold K6.twB
      rw [List.length_map]
      exact decide_eq_decide.mpr (by omega)
    rw [e] at q
    exact q
end
end K7

set_option maxRecDepth 100000
set_option maxHeartbeats 4000000
/-! how long a text is; a record as data; a spoilt text -/
namespace K6
open PySem hiding Tok code
open PySem.Spec PyProof.Rows GD K1
open L2 hiding rest
open TL (joinL tl_join)
theorem joinL_len {B : Nat} : ∀ {ps : List (List Nat)}, (∀ p ∈ ps, p.length ≤ B) → (joinL [32] ps).length ≤ ps.length * (B + 1)
  | [], _ => Nat.zero_le _
  | [p], h => by have := h p List.mem_cons_self; show p.length ≤ 1 * (B + 1); omega
  | p :: q :: r, h => by
    have h1 := h p List.mem_cons_self
    have h2 := joinL_len (ps := q :: r) fun x hx => h x (List.mem_cons_of_mem _ hx)
    rw [joinL_cons, List.length_append, List.length_cons, List.length_cons (a := p), Nat.succ_mul]
    omega
theorem aL_len {a : AV} (g : aB a = true) : (aL a).length ≤ 600 := by
  cases a with
  | i n =>
    obtain ⟨h1, h2⟩ : -99999 ≤ n ∧ n ≤ 99999 := of_decide_eq_true g
    rcases (show n < 0 ∨ 0 ≤ n by omega) with hn | hn
    · obtain ⟨m, rfl⟩ : ∃ m : Nat, n = -((m : Nat) : Int) := ⟨n.natAbs, by omega⟩
      rw [aL_neg (by omega), List.length_cons]
      have := (numT_dig (show m ≤ 99999 by omega)).2.1
      omega
    · obtain ⟨m, rfl⟩ : ∃ m : Nat, n = ((m : Nat) : Int) := ⟨n.natAbs, by omega⟩
      have := (numT_dig (show m ≤ 99999 by omega)).2.1
      show (numT m).length ≤ 600
      omega
  | s z =>
    unfold aB strV at g
    rw [Bool.and_eq_true] at g
    have := of_decide_eq_true g.1
    have e2 : z.cps.toList.length = z.length := Array.length_toList
    rw [aL_str, List.length_append, List.length_append, e2]
    show 1 + z.length + 1 ≤ 600
    omega
theorem name_len {z : Str} (h : nameB z = true) : z.cps.toList.length ≤ 600 := by
  have e2 : z.cps.toList.length = z.length := Array.length_toList
  have := (name_let h).2.2
  omega
theorem wR_len {x : Rec} (h : RecOK x) : (wR x).length ≤ 4300 ∧ 1 ≤ (wR x).length := by
  have e : (wR x).cps.toList.length = (wR x).length := Array.length_toList
  have hw : (wordR x).cps.toList.length ≤ 7 := by cases x <;> exact Nat.le_of_ble_eq_true rfl
  have hp : (∀ p ∈ partL x, p.length ≤ 600) ∧ (partL x).length ≤ 7 := by
    cases x with
    | ent xs => rcases h with rfl | rfl | rfl <;> exact ⟨by decide +kernel, by decide⟩
    | txt m t =>
      obtain ⟨h1, h2, h3⟩ := h
      refine ⟨fun p hp => ?_, Nat.le_of_ble_eq_true rfl⟩
      rcases List.mem_cons.mp hp with rfl | hp
      · exact name_len h1
      · rw [List.mem_singleton.mp hp, List.length_map]
        have e2 : t.cps.toList.length = t.length := Array.length_toList
        omega
    | rem m =>
      refine ⟨fun p hp => ?_, Nat.le_of_ble_eq_true rfl⟩
      rw [List.mem_singleton.mp hp]
      exact name_len h
    | upd n =>
      have hn : n ≤ 8 := h
      refine ⟨fun p hp => ?_, Nat.le_of_ble_eq_true rfl⟩
      rw [List.mem_singleton.mp hp]
      have := (numT_dig (show n ≤ 99999 by omega)).2.1
      omega
    | call hh n m f ad =>
      obtain ⟨h1, h2, h3, h4, h5⟩ := h
      have q := argsB_sm h5
      refine ⟨fun p hp => ?_, by show (ad.map _).length + 1 + 1 + 1 + 1 ≤ 7; rw [List.length_map]; omega⟩
      rcases List.mem_cons.mp hp with rfl | hp
      · have := (numT_dig (show hh ≤ 99999 by omega)).2.1
        omega
      rcases List.mem_cons.mp hp with rfl | hp
      · have := (numT_dig (show n ≤ 99999 by omega)).2.1
        omega
      rcases List.mem_cons.mp hp with rfl | hp
      · exact name_len h3
      rcases List.mem_cons.mp hp with rfl | hp
      · exact name_len h4
      obtain ⟨a, ha, rfl⟩ := List.mem_map.mp hp
      exact aL_len (q.2 a ha)
  have j := joinL_len hp.1
  have : (partL x).length * (600 + 1) ≤ 7 * 601 := Nat.mul_le_mul_right _ hp.2
  rw [← e, wR_split (partL_ne h), List.length_append, List.length_cons]
  omega
/-- a record as data -/
def recD : Rec → PyData
  | .ent xs => .tuple [.str "entries", .tuple (xs.map .str)]
  | .txt m t => .tuple [.str "text", .str m, .str t]
  | .rem m => .tuple [.str "remove", .str m]
  | .upd n => .tuple [.str "update", .int (n : Nat)]
  | .call h n m f ad => .tuple [.str "call", .int (h : Nat), .int (n : Nat), .str m, .str f, .tuple (ad.map aD)]
theorem strs_td {H : Hp} : ∀ xs : List Str, TDs H (xs.map V.str) (xs.map PyData.str)
  | [] => .nil
  | x :: r => .cons (.str x) (strs_td r)
theorem recD_td {H : Hp} {r : Addr} {x : Rec} (h : RecAt H r x) : TD H (.ref r) (recD x) := by
  obtain ⟨a, e1, e2⟩ := h
  cases x with
  | ent xs => exact .tup e1 (.cons (.str _) (.cons (.tup (e2 _ rfl) (strs_td xs)) .nil))
  | txt m t => exact .tup e1 (.cons (.str _) (.cons (.str _) (.cons (.str _) .nil)))
  | rem m => exact .tup e1 (.cons (.str _) (.cons (.str _) .nil))
  | upd n => exact .tup e1 (.cons (.str _) (.cons (.int _) .nil))
  | call h n m f ad => exact .tup e1 (.cons (.str _) (.cons (.int _) (.cons (.int _) (.cons (.str _) (.cons (.str _) (.cons (.tup (e2 _ rfl) (aD_td ad)) .nil))))))
theorem ch_fit {z : Str} {n : Nat} (h1 : z.length ≤ n) (h2 : ∀ c ∈ z.cps.toList, c = 10 ∨ isCh c = true) (hn : n ≤ 600) : Fit (.str z) 1 7000 := by
  refine (Fit.str h1 fun c hc => ?_).more (by decide) (by omega)
  rcases h2 c hc with rfl | h
  · decide
  · have := of_decide_eq_true h
    omega
theorem nm_fit {z : Str} (h : nameB z = true) : Fit (.str z) 1 7000 := ch_fit (n := 6) (name_let h).2.2 (fun c hc => .inr (let_ch ((name_let h).1 c hc))) (by decide)
theorem recD_fit {x : Rec} (h : RecOK x) : Fit (recD x) 2 60000 := by
  have wd : ∀ z : Str, z.length ≤ 600 → (∀ c ∈ z.cps.toList, isCh c = true) → Fit (.str z) 1 7000 := fun z h1 h2 => ch_fit h1 (fun c hc => .inr (h2 c hc)) (by decide)
  have tup : ∀ ds : List PyData, ds.length ≤ 6 → (∀ d ∈ ds, Fit d 1 7000) → Fit (.tuple ds) 2 60000 := fun ds hl h => (Fit.tup h).more (by decide) (by have := Nat.mul_le_mul_right (7000 + 2) hl; omega)
  cases x with
  | ent xs =>
    refine tup _ (by simp) fun d hd => ?_
    rcases List.mem_cons.mp hd with rfl | hd
    · exact wd _ (by decide) (by decide +kernel)
    rw [List.mem_singleton.mp hd]
    have hx : xs.length ≤ 3 ∧ ∀ z ∈ xs, nameB z = true := by rcases h with rfl | rfl | rfl <;> exact ⟨by decide, by decide +kernel⟩
    refine (Fit.tup (k := 0) (B := 70) fun d hd => ?_).more (by decide) (by rw [List.length_map]; have := Nat.mul_le_mul_right (70 + 2) hx.1; omega)
    obtain ⟨z, hz, rfl⟩ := List.mem_map.mp hd
    refine (Fit.str (n := 6) (name_let (hx.2 z hz)).2.2 fun c hc => ?_).more (by decide) (by decide)
    have := of_decide_eq_true (let_ch ((name_let (hx.2 z hz)).1 c hc))
    omega
  | txt m t =>
    obtain ⟨h1, h2, h3⟩ := h
    refine tup _ (by simp) fun d hd => ?_
    rcases List.mem_cons.mp hd with rfl | hd
    · exact wd _ (by decide) (by decide +kernel)
    rcases List.mem_cons.mp hd with rfl | hd
    · exact nm_fit h1
    rw [List.mem_singleton.mp hd]
    exact ch_fit h2 (fun c hc => (h3 c hc).imp id And.left) (by decide)
  | rem m =>
    refine tup _ (by simp) fun d hd => ?_
    rcases List.mem_cons.mp hd with rfl | hd
    · exact wd _ (by decide) (by decide +kernel)
    rw [List.mem_singleton.mp hd]
    exact nm_fit h
  | upd n =>
    have hn : n ≤ 8 := h
    refine tup _ (by simp) fun d hd => ?_
    rcases List.mem_cons.mp hd with rfl | hd
    · exact wd _ (by decide) (by decide +kernel)
    rw [List.mem_singleton.mp hd]
    exact (Fit.num (n := n) (by omega)).more (by decide) (by decide)
  | call hh n m f ad =>
    obtain ⟨h1, h2, h3, h4, h5⟩ := h
    refine tup _ (by simp) fun d hd => ?_
    rcases List.mem_cons.mp hd with rfl | hd
    · exact wd _ (by decide) (by decide +kernel)
    rcases List.mem_cons.mp hd with rfl | hd
    · exact (Fit.num (n := hh) (by omega)).more (by decide) (by decide)
    rcases List.mem_cons.mp hd with rfl | hd
    · exact (Fit.num (n := n) (by omega)).more (by decide) (by decide)
    rcases List.mem_cons.mp hd with rfl | hd
    · exact nm_fit h3
    rcases List.mem_cons.mp hd with rfl | hd
    · exact nm_fit h4
    rw [List.mem_singleton.mp hd]
    exact (ag_sh (o := some ad) (fun ad' e => by cases e; exact h5)).more (by decide) (by decide)
end K6

set_option maxRecDepth 100000
set_option maxHeartbeats 4000000
/-! fits, count_whole, record_at -/
namespace K7
open PySem hiding Tok code
open PySem.Spec PyProof.Rows GD K1
open L2 hiding rest
open K6 (Rec RecAt RecSm wR spWRec recV recA T2 ST recD)
open K4 (Blks BlkV encR iv decO DecV)
open K5 (DS DA Kz grow rdM stepS tnS cutM flM MO TxD TxP TxO passE z32)
abbrev sFits : Stmt := topS 73
abbrev sCW : Stmt := topS 74
abbrev sRecA : Stmt := topS 71
def isEnt : Rec → Bool
  | .ent _ => true
  | _ => false
def isCall (h : Nat) : Rec → Bool
  | .call h' _ _ _ _ => decide (h' = h)
  | _ => false
def fitM (x : Rec) (bs : List Rec) : Bool := if isEnt x ≠ bs.isEmpty then false else match x with
  | .call h n _ _ _ => decide (n = (bs.filter (isCall h)).length)
  | _ => true
/-- records that can be looked at -/
structure RW (x : Rec) : Prop where
  b : RB x
  cl : PyData.canLay0 (recD x) = true
  dp : (recD x).depth ≤ 5
section
variable {P : Program} {w : World} {K : PySem.W.Frag} {mg : Str → Option Value} {base : Heap} {C CL NO LF PC D PN PV : Addr}
theorem recs_dp {K : PySem.W.Frag} {H : Hp} {ws : List V} {bs : List Rec} (h : LsR H ws bs) : DpAll K H ws (bs.map recD) := by
  induction h with
  | nil => exact .nil
  | cons a _ ih =>
    obtain ⟨r, rfl, h⟩ := a
    exact .cons (K6.recD_td h).dp ih
theorem recs_sh {bs : List Rec} (h : ∀ x ∈ bs, RW x) : SeqAt.shaped (.list (bs.map recD)) = true := by
  refine K4.sh_of (K4.cl_all fun d hd => ?_) ?_
  · obtain ⟨x, hx, rfl⟩ := List.mem_map.mp hd
    exact (h x hx).cl
  · rw [PyData.depth]
    have := K4.dp_all (l := bs.map recD) (n := 5) fun d hd => by
      obtain ⟨x, hx, rfl⟩ := List.mem_map.mp hd
      exact (h x hx).dp
    omega
theorem RecAt.hd {H : Hp} {r : Addr} {x : Rec} (h : RecAt H r x) : ∃ v xs, H r = some (.tup (.str (K6.wordR x) :: v :: xs)) := by
  obtain ⟨a, h1, _⟩ := h
  cases x <;> exact ⟨_, _, h1⟩
theorem eqv_nil (bs : List Rec) : PyData.eqv (.list (bs.map recD)) (.list []) = bs.isEmpty := by
  cases bs <;> rfl
theorem word_ent (x : Rec) : decide (V.str (K6.wordR x) = V.str "entries") = isEnt x := by
  cases x with
  | ent _ => exact decide_eq_true rfl
  | txt _ _ => exact decide_eq_false fun z => absurd (V.str.inj z) (by decide : (Str.ofString "text") ≠ Str.ofString "entries")
  | rem _ => exact decide_eq_false fun z => absurd (V.str.inj z) (by decide : (Str.ofString "remove") ≠ Str.ofString "entries")
  | upd _ => exact decide_eq_false fun z => absurd (V.str.inj z) (by decide : (Str.ofString "update") ≠ Str.ofString "entries")
  | call _ _ _ _ _ => exact decide_eq_false fun z => absurd (V.str.inj z) (by decide : (Str.ofString "call") ≠ Str.ofString "entries")
def isC : Rec → Bool
  | .call _ _ _ _ _ => true
  | _ => false
theorem word_call2 (x : Rec) : decide (V.str (K6.wordR x) = V.str "call") = isC x := by
  cases x with
  | call _ _ _ _ _ => exact decide_eq_true rfl
  | txt _ _ => exact decide_eq_false fun z => absurd (V.str.inj z) (by decide : (Str.ofString "text") ≠ Str.ofString "call")
  | rem _ => exact decide_eq_false fun z => absurd (V.str.inj z) (by decide : (Str.ofString "remove") ≠ Str.ofString "call")
  | upd _ => exact decide_eq_false fun z => absurd (V.str.inj z) (by decide : (Str.ofString "update") ≠ Str.ofString "call")
  | ent _ => exact decide_eq_false fun z => absurd (V.str.inj z) (by decide : (Str.ofString "entries") ≠ Str.ofString "call")
theorem word_call (x : Rec) : (!decide (V.str (K6.wordR x) = V.str "call")) = !isC x := by rw [word_call2]
def spFits : L2.Sp := fun vs H Q _ => ∃ (r b : Addr) (x : Rec) (ws : List V) (bs : List Rec), vs = [.ref r, .ref b] ∧ RecAt H r x ∧ H b = some (.lst ws) ∧ LsR H ws bs ∧ (∀ x ∈ bs, RW x) ∧ bs.length ≤ 1000 ∧ ∀ H', Same H H' → Q (.bl (fitM x bs)) H'
theorem scFits : FnScope ["record", "before", "row"] ["record", "before"] (defScope sFits) := ⟨rfl, rfl, rfl, by decide +kernel, rfl, by decide +kernel, by decide +kernel⟩
theorem ok_fits {f : Addr} {fd : FuncData} (F : Fun K "fits" "fits" sFits f fd) (T : Txt K mg) : FnOk P w K mg base CX0 1 f fd ["record", "before"] spFits := by
  have sc := scFits
  refine F.ok sc (fun vs H Q E h => ?_) (fun cdv A outer s H vs Q E hr h => ?_)
  · obtain ⟨r, b, x, ws, bs, rfl, _⟩ := h
    rfl
  · obtain ⟨r, b, x, ws, bs, rfl, hx, hb, hbs, hw, hl, q⟩ := h
    refine ⟨_, (pss_cons (ps_if (pt_cmpR op_ne (pe_cmpR op_eq (pe_ix ix_tup (pv 0) pe_int (fun _ _ => rfl)) pe_str (nomark _)) (pe_cmpR (op_eqD hr.units) (pv 1) (pe_lst pa_nil) (nomark _)) (nomark _))
      (pss_one (ps_ret pe_bl))
      pss_nil)
      (pss_one (ps_ret (pe_or (pe_cmpR op_ne (pe_ix ix_tup (pv 0) pe_int (fun _ _ => rfl)) pe_str (nomark _)) (pe_one (pe_cmpR op_eq (pe_ix ix_tup (pv 0) pe_int (fun _ _ => rfl)) (pe_callB call_len_seq (by rfl) T.len (by decide +kernel) (pa_cons (pe_lc (own := [("row", 2)]) rfl sc.nd (pi_list (pv 1)) (blkOk_by (own := [("row", 2)]) (N := ["record", "before", "row"]) (sc := defScope sFits) (by decide +kernel)) (fun _ _ _ _ _ => (pg_name (i := 2) sc.nd rfl (Or.inl rfl))) (fun _ _ _ _ _ => (pts_one (PW.pt (pw_and (pt_cmpR op_eq (pe_ix (show IxR _ (rIxT K) from ix_tup) (pv 2) pe_int (fun _ _ => rfl)) pe_str (nomark _)) (pw_and1 (pt_cmpR op_eq (pe_ix (show IxR _ (rIxT K) from ix_tup) (pv 2) pe_int (fun _ _ => rfl)) (pe_ix (show IxR _ (rIxT K) from ix_tup) (pv 0) pe_int (fun _ _ => rfl)) (nomark _))))))) (fun _ _ _ _ _ => (pv 2))) pa_nil)) (nomark _))))))), ?_⟩
    obtain ⟨v1, xs1, hr1⟩ := RecAt.hd hx
    refine ⟨_, rfl, r, _, _, _, rfl, rfl, SqT.of hr1, atI_nat (j := 0) rfl, rfl, ?_⟩
    refine ⟨_, rfl, Nat.zero_le _, fun e ne => ?_⟩
    have s1 : Same H (upd H e (.lst [])) := Same.lst (Same.refl H) ne
    have hbs1 := hbs.keep (fun q xs e => s1 q _ e)
    refine ⟨.list (bs.map recD), .list [], .lst (SqL.of (s1 _ _ hb)) (recs_dp hbs1), .lst (SqL.of upd_same) .nil, recs_sh hw, rfl, rfl, _, rfl, ?_⟩
    rw [eqv_nil, word_ent]
    have hx1 : RecAt (upd H e (.lst [])) r x := RecAt.keep (fun q xs e => s1 q _ e) hx
    generalize upd H e (.lst []) = H1 at *
    by_cases hne : isEnt x ≠ bs.isEmpty
    · refine K5.iteY (by
        cases h1 : isEnt x <;> cases h2 : bs.isEmpty <;> first | rfl | exact absurd (h1.trans h2.symm) hne) ?_
      have := q H1 s1
      unfold fitM at this
      rw [if_pos hne] at this
      exact this
    refine K5.iteE (by
      cases h1 : isEnt x <;> cases h2 : bs.isEmpty <;> first | rfl | exact absurd (fun z => by rw [h1, h2] at z; cases z) hne) ?_
    unfold fitM at q
    rw [if_neg hne] at q
    obtain ⟨v1, xs1, hr1⟩ := RecAt.hd hx1
    refine nxp ⟨_, rfl, r, _, _, _, rfl, rfl, SqT.of hr1, atI_nat (j := 0) rfl, rfl, _, rfl, ?_⟩
    rw [word_call]
    cases x with
    | ent _ => exact iteT (q _ s1)
    | txt _ _ => exact iteT (q _ s1)
    | rem _ => exact iteT (q _ s1)
    | upd _ => exact iteT (q _ s1)
    | call h n m f ad =>
      dsimp only at q
      obtain ⟨aa, hr2, _⟩ := hx1
      refine iteF ⟨_, rfl, r, _, _, _, rfl, rfl, SqT.of hr2, atI_nat (j := 2) rfl, ?_⟩
      refine ⟨_, rfl, b, rfl, ⟨_, SqL.of (s1 _ _ hb)⟩, fun D nD => ?_⟩
      refine lc_it (walk_list (K := K) (a := b) (xs := ws)) (fun j H' => ∃ us, Same H1 H' ∧ H' D = some (.lst us) ∧ us.length = ((bs.take j).filter (isCall h)).length) ⟨[], Same.lst (Same.refl _) nD, upd_same, rfl⟩ (fun j H' _ pv => ?_) (fun j v H2 H3 hj pv y => ?_) (fun H2 pv => ?_)
      · obtain ⟨_, s2, _⟩ := pv
        exact SqL.of (s2 _ _ (s1 _ _ hb))
      · obtain ⟨us, s2, eD, hu⟩ := pv
        obtain ⟨rfl, hv⟩ := y
        obtain ⟨y, hy, r2, rfl, hr⟩ := pairAt hbs1 hv
        have hr' : RecAt H3 r2 y := RecAt.keep (fun q xs e => s2 q _ e) hr
        have tk : (bs.take (j + 1)).filter (isCall h) = (bs.take j).filter (isCall h) ++ [y].filter (isCall h) := by rw [List.take_add_one, hy]; exact List.filter_append ..
        have ul : us.length ≤ 1000 := by
          rw [hu]
          have := List.length_filter_le (isCall h) (bs.take j)
          rw [List.length_take] at this
          omega
        obtain ⟨v2, xs2, hh2⟩ := RecAt.hd hr'
        refine ⟨rfl, _, rfl, r2, _, _, _, rfl, rfl, SqT.of hh2, atI_nat (j := 0) rfl, rfl, _, rfl, ?_⟩
        rw [word_call2]
        cases y with
        | ent _ => exact iteF (iteF ⟨us, s2, eD, by rw [hu, tk]; simp [isCall]⟩)
        | txt _ _ => exact iteF (iteF ⟨us, s2, eD, by rw [hu, tk]; simp [isCall]⟩)
        | rem _ => exact iteF (iteF ⟨us, s2, eD, by rw [hu, tk]; simp [isCall]⟩)
        | upd _ => exact iteF (iteF ⟨us, s2, eD, by rw [hu, tk]; simp [isCall]⟩)
        | call h' n' m' f' ad' =>
          obtain ⟨ab, hr3, _⟩ := hr'
          refine iteT ⟨_, rfl, r2, _, _, _, rfl, rfl, SqT.of hr3, atI_nat (j := 1) rfl, ?_⟩
          refine ⟨_, rfl, r, _, _, _, rfl, rfl, SqT.of (s2 _ _ hr2), atI_nat (j := 1) rfl, rfl, _, rfl, ?_⟩
          by_cases eh : h' = h
          · refine K5.iteY (decide_eq_true (by rw [eh])) ?_
            refine ⟨_, rfl, us, eD, szlt (by omega), us ++ [.ref r2], fun z o e => by rw [upd_ne (ne_of_none e nD)]; exact s2 _ _ e, upd_same, ?_⟩
            rw [List.length_append, hu, tk, List.length_append]
            simp [isCall, eh]
          · refine K5.iteE (decide_eq_false fun z => eh (by injection z with z; omega)) ⟨us, s2, eD, ?_⟩
            rw [hu, tk]
            simp [isCall, eh]
      · obtain ⟨us, s2, eD, hu⟩ := pv
        have lw := pairLen hbs
        rw [lw, List.take_length] at hu
        refine ⟨D, us, rfl, .inl (SqL.of eD), rfl, ?_⟩
        have := q H2 (fun z o e => s2 _ _ (s1 _ _ e))
        rw [hu]
        rw [show decide (V.int ((n : Nat) : Int) = V.int (((bs.filter (isCall h)).length : Nat) : Int)) = decide (n = (bs.filter (isCall h)).length) from decide_eq_decide.mpr ⟨fun z => by injection z with z; omega, fun z => by rw [z]⟩]
        exact this
def cwM : List Rec → Nat → Nat → List Str → Nat
  | [], _, w, _ => w
  | x :: r, k, w, ch => match x with
    | .txt m _ => cwM r (k + 1) w (ch ++ [m])
    | .rem m => cwM r (k + 1) w (ch ++ [m])
    | .upd n => if ch.length ≠ n ∨ K6.twB ch = true then w else cwM r (k + 1) k []
    | _ => if ch.length ≠ 0 ∨ K6.twB ch = true then w else cwM r (k + 1) k []
def spCW : L2.Sp := fun vs H Q _ => ∃ (b : Addr) (ws : List V) (bs : List Rec), vs = [.ref b] ∧ H b = some (.lst ws) ∧ LsR H ws bs ∧ bs.length ≤ 900 ∧ ∀ H', Same H H' → Q (.int ((cwM bs 1 0 [] : Nat) : Int)) H'
theorem scCW : FnScope ["records", "whole", "changed", "at", "record", "expected"] ["records"] (defScope sCW) := ⟨rfl, rfl, rfl, by decide +kernel, rfl, by decide +kernel, by decide +kernel⟩
theorem ok_cw {f f1 : Addr} {fd fd1 : FuncData} (F : Fun K "count_whole" "count_whole" sCW f fd) (T : Txt K mg) (T3 : K5.Txt3 mg) (FT : K6.FO P w K mg base CX0 1 "has_twice" ["names"] (spTwL K) f1 fd1) : FnOk P w K mg base CX0 2 f fd ["records"] spCW := by
  have sc := scCW
  refine F.ok sc (fun vs H Q E h => ?_) (fun cdv A outer s H vs Q E hr h => ?_)
  · obtain ⟨b, ws, bs, rfl, _⟩ := h
    rfl
  · obtain ⟨b, ws, bs, rfl, hb, hbs, hl, q⟩ := h
    refine ⟨_, (pss_cons (ps_set (i := 1) sc.nd rfl (Or.inl rfl) pe_int)
      (pss_cons (ps_set (i := 2) sc.nd rfl (Or.inl rfl) (pe_lst pa_nil))
      (pss_cons (ps_for PassesOwn.never rfl (pi_enumS rfl T3.enumerate (pa_cons (pv 0) pa_nil) pe_int) (pg_tup rfl (pgs_cons (pg_name (i := 3) sc.nd rfl (Or.inl rfl)) (pgs_cons (pg_name (i := 4) sc.nd rfl (Or.inl rfl)) pgs_nil)))
      (pss_cons (ps_if (pt_cmpR op_in_seq (pe_ix ix_tup (pv 4) pe_int (fun _ _ => rfl)) (pe_tup (pa_cons pe_str (pa_cons pe_str pa_nil))) rfl)
      (pss_cons (ps_expr (pe_bm PySem.F.plainAttrs_list PySem.F.slot_list_append PySem.F.type_list_append mt_append (pv 2) (pa_cons (pe_ix ix_tup (pv 4) pe_int (fun _ _ => rfl)) pa_nil)))
      (pss_one ps_continue))
      pss_nil)
      (pss_cons (ps_set (i := 5) sc.nd rfl (Or.inl rfl) (pe_ifExp (pt_cmpR op_eq (pe_ix ix_tup (pv 4) pe_int (fun _ _ => rfl)) pe_str (nomark _)) (pe_ix ix_tup (pv 4) pe_int (fun _ _ => rfl)) pe_int))
      (pss_cons (ps_if (PW.pt (pw_or (pt_cmpR op_ne (pe_callB call_len_seq (by rfl) T.len (by decide +kernel) (pa_cons (pv 2) pa_nil)) (pv 5) (nomark _)) (pw_or1 (pt_val (pe_call FT.ok hr (by rfl) FT.m FT.kp FT.b .nil pass0 (pa_cons (pv 2) pa_nil))))))
      (pss_one (ps_ret (pv 1)))
      pss_nil)
      (pss_cons (ps_set (i := 1) sc.nd rfl (Or.inl rfl) (pv 3))
      (pss_one (ps_set (i := 2) sc.nd rfl (Or.inl rfl) (pe_lst pa_nil))))))))
      (pss_one (ps_ret (pv 1)))))), ?_⟩
    refine ⟨Nat.zero_le _, fun c0 nc0 => ?_⟩
    have s0 : Same H (upd H c0 (.lst [])) := Same.lst (Same.refl H) nc0
    have lw := pairLen hbs
    refine nxp ?_
    refine ⟨_, rfl, b, ws, 1, rfl, rfl, by decide, SqL.of (s0 _ _ hb), ?_⟩
    refine for_it (walk_enumS (K := K) (a := b) (k := 1) (xs := ws)) (fun i σ H' => ∃ (y3 y4 y5 : Option V) (wh : Nat) (cl : Addr) (ch : List Str), σ = [some (.ref b), some (.int (wh : Nat)), some (.ref cl), y3, y4, y5] ∧ Same H H' ∧ H cl = none ∧ H' cl = some (.lst (ch.map V.str)) ∧ cwM bs 1 0 [] = cwM (bs.drop i) (1 + i) wh ch ∧ ch.length ≤ i)
      ⟨none, none, none, 0, c0, [], rfl, s0, nc0, upd_same, rfl, Nat.le_refl _⟩ (fun i σ H' _ hI => ?_) (fun i v σ H2 H3 hi hI y => ?_) (fun σ H' hI => ?_)
    · obtain ⟨_, _, _, _, _, _, _, s1, _⟩ := hI
      exact SqL.of (s1 _ _ hb)
    · obtain ⟨y3, y4, y5, wh, cl, ch, rfl, s1, ncl, ecl, hcw, hch⟩ := hI
      obtain ⟨Tq, v1, v2, rfl, nT, rfl, e1, e2⟩ := y
      cases e1
      obtain ⟨x, hxi, r, rfl, rx⟩ := pairAt hbs e2
      have s3 : Same H (upd H2 Tq (.tup [.int ((1 + i : Nat) : Int), .ref r])) := fun z o e => by rw [upd_ne (ne_of_none (s1 z o e) nT)]; exact s1 z o e
      have ecl3 : upd H2 Tq (.tup [.int ((1 + i : Nat) : Int), .ref r]) cl = some (.lst (ch.map V.str)) := by rw [upd_ne (ne_of_none ecl nT)]; exact ecl
      have dr : bs.drop i = x :: bs.drop (i + 1) := by
        obtain ⟨hi1, hi2⟩ := List.getElem?_eq_some_iff.mp hxi
        rw [List.drop_eq_getElem_cons hi1, hi2]
      rw [dr] at hcw
      have il : i < bs.length := by omega
      refine ⟨Tq, _, rfl, SqT.of upd_same, rfl, _, _, rfl, _, _, rfl, rfl, ?_⟩
      generalize upd H2 Tq (.tup [.int ((1 + i : Nat) : Int), .ref r]) = H3 at *
      have rx3 : RecAt H3 r x := RecAt.keep (fun q xs e => s3 q _ e) rx
      have app : ∀ (H4 : Hp) (m : Str), Same H3 H4 → cwM bs 1 0 [] = cwM (bs.drop (i + 1)) (1 + i + 1) wh (ch ++ [m]) → ∃ (y3 y4 z5 : Option V) (wh' : Nat) (cl' : Addr) (ch' : List Str), [some (.ref b), some (.int (wh : Nat)), some (.ref cl), some (.int ((1 + i : Nat) : Int)), some (.ref r), y5] = [some (.ref b), some (.int (wh' : Nat)), some (.ref cl'), y3, y4, z5] ∧ Same H (upd H4 cl (.lst (ch.map V.str ++ [.str m]))) ∧ H cl' = none ∧ (upd H4 cl (.lst (ch.map V.str ++ [.str m]))) cl' = some (.lst (ch'.map V.str)) ∧ cwM bs 1 0 [] = cwM (bs.drop (i + 1)) (1 + (i + 1)) wh' ch' ∧ ch'.length ≤ i + 1 := fun H4 m s4 hc =>
        ⟨_, _, _, wh, cl, ch ++ [m], rfl, fun z o e => by rw [upd_ne (ne_of_none e ncl)]; exact s4 _ _ (s3 _ _ e), ncl, by rw [upd_same, List.map_append]; rfl, by rw [hc, Nat.add_assoc], by rw [List.length_append, List.length_singleton]; omega⟩
      have chl : (ch.map V.str).length < sizeLine := szlt (by rw [List.length_map]; omega)
      cases x with
      | txt m t =>
        obtain ⟨aa, hr, _⟩ := rx3
        refine ⟨_, rfl, r, _, _, _, rfl, rfl, SqT.of hr, atI_nat (j := 0) rfl, two_le, fun u nu => ⟨u, _, rfl, .inr (SqT.of upd_same), rfl, rfl, _, rfl, iteT ?_⟩⟩
        have s4 : Same H3 (upd H3 u (.tup [.str "text", .str "remove"])) := Same.lst (Same.refl _) nu
        refine ⟨_, rfl, .inl ⟨rfl, _, SqL.of (s4 _ _ ecl3)⟩, _, rfl, r, _, _, _, rfl, rfl, SqT.of (s4 _ _ hr), atI_nat (j := 1) rfl, ?_⟩
        exact ⟨cl, _, _, rfl, rfl, s4 _ _ ecl3, chl, app _ _ s4 hcw⟩
      | rem m =>
        obtain ⟨aa, hr, _⟩ := rx3
        refine ⟨_, rfl, r, _, _, _, rfl, rfl, SqT.of hr, atI_nat (j := 0) rfl, two_le, fun u nu => ⟨u, _, rfl, .inr (SqT.of upd_same), rfl, rfl, _, rfl, iteT ?_⟩⟩
        have s4 : Same H3 (upd H3 u (.tup [.str "text", .str "remove"])) := Same.lst (Same.refl _) nu
        refine ⟨_, rfl, .inl ⟨rfl, _, SqL.of (s4 _ _ ecl3)⟩, _, rfl, r, _, _, _, rfl, rfl, SqT.of (s4 _ _ hr), atI_nat (j := 1) rfl, ?_⟩
        exact ⟨cl, _, _, rfl, rfl, s4 _ _ ecl3, chl, app _ _ s4 hcw⟩
      | upd n =>
        obtain ⟨aa, hr, _⟩ := rx3
        refine ⟨_, rfl, r, _, _, _, rfl, rfl, SqT.of hr, atI_nat (j := 0) rfl, two_le, fun u nu => ⟨u, _, rfl, .inr (SqT.of upd_same), rfl, rfl, _, rfl, iteF ?_⟩⟩
        have s4 : Same H3 (upd H3 u (.tup [.str "text", .str "remove"])) := Same.lst (Same.refl _) nu
        have ecl4 := s4 _ _ ecl3
        have hr4 := s4 _ _ hr
        generalize upd H3 u (.tup [.str "text", .str "remove"]) = H4 at *
        have s04 : Same H H4 := fun z o e => s4 _ _ (s3 _ _ e)
        refine nxp ⟨_, rfl, r, _, _, _, rfl, rfl, SqT.of hr4, atI_nat (j := 0) rfl, rfl, _, rfl, iteT ⟨_, rfl, r, _, _, _, rfl, rfl, SqT.of hr4, atI_nat (j := 1) rfl, ?_⟩⟩
        refine ⟨_, rfl, cl, _, rfl, .inl (SqL.of ecl4), _, rfl, rfl, _, rfl, ?_⟩
        have hcw : cwM bs 1 0 [] = if ch.length ≠ n ∨ K6.twB ch = true then wh else cwM (bs.drop (i + 1)) (1 + i + 1) (1 + i) [] := hcw
        by_cases hn : ch.length = n
        · refine K5.iteE (by rw [List.length_map, hn]; exact K4.ne_ff rfl) ?_
          refine ⟨_, rfl, cl, ch, rfl, SqL.of ecl4, by omega, _, rfl, ?_⟩
          cases ht : K6.twB ch with
          | true =>
            rw [if_pos (.inr ht)] at hcw
            rw [hcw] at q
            exact iteT ⟨_, rfl, q _ s04⟩
          | false =>
            rw [if_neg (fun z => z.elim (fun z => z hn) (fun z => by rw [ht] at z; cases z))] at hcw
            refine iteF (nxp ⟨_, rfl, Nat.zero_le _, fun c1 nc1 => ?_⟩)
            exact ⟨_, _, _, 1 + i, c1, [], rfl, fun z o e => by rw [upd_ne (ne_of_none (s04 z o e) nc1)]; exact s04 z o e, K4.sfree s04 nc1, upd_same, by rw [hcw, Nat.add_assoc], Nat.zero_le _⟩
        · refine K5.iteY (by rw [List.length_map]; exact K4.ne_tt (fun z => hn (by omega))) ?_
          rw [if_pos (.inl hn)] at hcw
          rw [hcw] at q
          exact iteT ⟨_, rfl, q _ s04⟩
      | ent xs =>
        obtain ⟨aa, hr, _⟩ := rx3
        refine ⟨_, rfl, r, _, _, _, rfl, rfl, SqT.of hr, atI_nat (j := 0) rfl, two_le, fun u nu => ⟨u, _, rfl, .inr (SqT.of upd_same), rfl, rfl, _, rfl, iteF ?_⟩⟩
        have s4 : Same H3 (upd H3 u (.tup [.str "text", .str "remove"])) := Same.lst (Same.refl _) nu
        have ecl4 := s4 _ _ ecl3
        have hr4 := s4 _ _ hr
        generalize upd H3 u (.tup [.str "text", .str "remove"]) = H4 at *
        have s04 : Same H H4 := fun z o e => s4 _ _ (s3 _ _ e)
        refine nxp ⟨_, rfl, r, _, _, _, rfl, rfl, SqT.of hr4, atI_nat (j := 0) rfl, rfl, _, rfl, iteF ?_⟩
        refine ⟨_, rfl, cl, _, rfl, .inl (SqL.of ecl4), _, rfl, rfl, _, rfl, ?_⟩
        have hcw : cwM bs 1 0 [] = if ch.length ≠ 0 ∨ K6.twB ch = true then wh else cwM (bs.drop (i + 1)) (1 + i + 1) (1 + i) [] := hcw
        by_cases hn : ch.length = 0
        · refine K5.iteE (by rw [List.length_map, hn]; exact K4.ne_ff rfl) ?_
          refine ⟨_, rfl, cl, ch, rfl, SqL.of ecl4, by omega, _, rfl, ?_⟩
          cases ht : K6.twB ch with
          | true =>
            rw [if_pos (.inr ht)] at hcw
            rw [hcw] at q
            exact iteT ⟨_, rfl, q _ s04⟩
          | false =>
            rw [if_neg (fun z => z.elim (fun z => z hn) (fun z => by rw [ht] at z; cases z))] at hcw
            refine iteF (nxp ⟨_, rfl, Nat.zero_le _, fun c1 nc1 => ?_⟩)
            exact ⟨_, _, _, 1 + i, c1, [], rfl, fun z o e => by rw [upd_ne (ne_of_none (s04 z o e) nc1)]; exact s04 z o e, K4.sfree s04 nc1, upd_same, by rw [hcw, Nat.add_assoc], Nat.zero_le _⟩
        · refine K5.iteY (by rw [List.length_map]; exact K4.ne_tt (fun z => hn (by omega))) ?_
          rw [if_pos (.inl hn)] at hcw
          rw [hcw] at q
          exact iteT ⟨_, rfl, q _ s04⟩
      | call h n m f ad =>
        obtain ⟨aa, hr, _⟩ := rx3
        refine ⟨_, rfl, r, _, _, _, rfl, rfl, SqT.of hr, atI_nat (j := 0) rfl, two_le, fun u nu => ⟨u, _, rfl, .inr (SqT.of upd_same), rfl, rfl, _, rfl, iteF ?_⟩⟩
        have s4 : Same H3 (upd H3 u (.tup [.str "text", .str "remove"])) := Same.lst (Same.refl _) nu
        have ecl4 := s4 _ _ ecl3
        have hr4 := s4 _ _ hr
        generalize upd H3 u (.tup [.str "text", .str "remove"]) = H4 at *
        have s04 : Same H H4 := fun z o e => s4 _ _ (s3 _ _ e)
        refine nxp ⟨_, rfl, r, _, _, _, rfl, rfl, SqT.of hr4, atI_nat (j := 0) rfl, rfl, _, rfl, iteF ?_⟩
        refine ⟨_, rfl, cl, _, rfl, .inl (SqL.of ecl4), _, rfl, rfl, _, rfl, ?_⟩
        have hcw : cwM bs 1 0 [] = if ch.length ≠ 0 ∨ K6.twB ch = true then wh else cwM (bs.drop (i + 1)) (1 + i + 1) (1 + i) [] := hcw
        by_cases hn : ch.length = 0
        · refine K5.iteE (by rw [List.length_map, hn]; exact K4.ne_ff rfl) ?_
          refine ⟨_, rfl, cl, ch, rfl, SqL.of ecl4, by omega, _, rfl, ?_⟩
          cases ht : K6.twB ch with
          | true =>
            rw [if_pos (.inr ht)] at hcw
            rw [hcw] at q
            exact iteT ⟨_, rfl, q _ s04⟩
          | false =>
            rw [if_neg (fun z => z.elim (fun z => z hn) (fun z => by rw [ht] at z; cases z))] at hcw
            refine iteF (nxp ⟨_, rfl, Nat.zero_le _, fun c1 nc1 => ?_⟩)
            exact ⟨_, _, _, 1 + i, c1, [], rfl, fun z o e => by rw [upd_ne (ne_of_none (s04 z o e) nc1)]; exact s04 z o e, K4.sfree s04 nc1, upd_same, by rw [hcw, Nat.add_assoc], Nat.zero_le _⟩
        · refine K5.iteY (by rw [List.length_map]; exact K4.ne_tt (fun z => hn (by omega))) ?_
          rw [if_pos (.inl hn)] at hcw
          rw [hcw] at q
          exact iteT ⟨_, rfl, q _ s04⟩
    · obtain ⟨y3, y4, y5, wh, cl, ch, rfl, s1, ncl, ecl, hcw, hch⟩ := hI
      rw [List.drop_of_length_le (by omega)] at hcw
      have : cwM bs 1 0 [] = wh := hcw
      rw [this] at q
      exact ⟨_, rfl, q _ s1⟩
def rcM (s : DS) (a : Nat) (bs : List Rec) : Option Rec := match txM s a bs.length with
  | none => none
  | some L => match K6.readM L with
    | none => none
    | some x => if fitM x bs = true then some x else none
theorem txM_len {s : DS} {a n : Nat} {L : List Nat} (h : txM s a n = some L) : L.length ≤ 720 := by
  unfold txM at h
  by_cases ea : a = s.st.length
  · rw [if_pos ea] at h; cases h
  rw [if_neg ea] at h
  cases hd : decO (rdM s a) with
  | none => rw [hd] at h; cases h
  | some t =>
    obtain ⟨i, m, num, p⟩ := t
    rw [hd] at h
    dsimp only at h
    by_cases hm : (if ((s.st.length : Nat) : Int) - ((a : Nat) : Int) < 30 then ((s.st.length : Nat) : Int) - ((a : Nat) : Int) else 30) < m
    · rw [if_pos hm] at h; cases h
    rw [if_neg hm] at h
    have m30 : m ≤ 30 := by
      by_cases z : ((s.st.length : Nat) : Int) - ((a : Nat) : Int) < 30
      · rw [if_pos z] at hm; omega
      · rw [if_neg z] at hm; omega
    cases hp : (bksM s a m).mapM decO with
    | none => rw [hp] at h; cases h
    | some ps =>
      rw [hp] at h
      dsimp only at h
      have key : (bksM s a m).map decO = ps.map some := by
        cases hn : ((bksM s a m).map decO).any fun o => o.isNone with
        | true => rw [mapM_none hn] at hp; cases hp
        | false =>
          obtain ⟨ps', e1, e2⟩ := mapM_some hn
          rw [hp] at e1
          cases e1
          exact e2
      have lp := congrArg List.length key
      rw [List.length_map, List.length_map] at lp
      have lb : (bksM s a m).length = m.toNat := by unfold bksM; rw [List.length_map, List.length_range]
      have p24 : ∀ t ∈ ps, t.2.2.2.length ≤ 24 := fun t ht => by
        have : some t ∈ (bksM s a m).map decO := by rw [key]; exact List.mem_map.mpr ⟨t, ht, rfl⟩
        obtain ⟨b, _, hb⟩ := List.mem_map.mp this
        exact (decO_some (i := t.1) (m := t.2.1) (n := t.2.2.1) hb).2.1
      by_cases he : PyData.eqv (K4.blkD (encR (n : Nat) (ps.flatMap fun q => q.2.2.2))) (K4.blkD (bksM s a m)) = true
      · rw [if_pos he] at h
        cases h
        rw [List.length_flatMap]
        have := sum24 (ps.map fun t => t.2.2.2.length) fun x hx => by
          obtain ⟨t, ht, rfl⟩ := List.mem_map.mp hx
          exact p24 t ht
        rw [List.length_map] at this
        omega
      · rw [if_neg he] at h; cases h
def spRecA (C PN PV : Addr) : L2.Sp := fun vs H Q _ => ∃ (Z : Addr → Prop) (p b : Addr) (s : DS) (a : Nat) (ws : List V) (bs : List Rec), vs = [.ref p, .int (a : Nat), .ref b] ∧ DL C PN PV Z H p s ∧ H b = some (.lst ws) ∧ LsR H ws bs ∧ (∀ x ∈ bs, RW x) ∧ bs.length ≤ 900 ∧ a ≤ s.st.length ∧ (∀ i < s.st.length, (rdM s i).length = 32 ∧ ∀ y ∈ rdM s i, 0 ≤ y ∧ y ≤ 255) ∧
  ∀ H', ST PN PV H H' → (rcM s a bs = none → Q .non H') ∧ ∀ x r, rcM s a bs = some x → RecAt H' r x → Q (.ref r) H'
theorem scRecA : FnScope ["disk", "at", "before", "text", "record"] ["disk", "at", "before"] (defScope sRecA) := ⟨rfl, rfl, rfl, by decide +kernel, rfl, by decide +kernel, by decide +kernel⟩
theorem ok_recA {f f1 f2 f3 : Addr} {fd fd1 fd2 fd3 : FuncData} (F : Fun K "record_at" "record_at" sRecA f fd) (T : Txt K mg)
    (FX : K5.FO P w K mg base (L2.CX P w) 5 "text_at" ["disk", "at", "number"] (spTxt C) f1 fd1) (FR : K6.FO P w K mg base CX0 9 "read_record" ["text"] (K6.spRead PN PV) f2 fd2) (FF : K5.FO P w K mg base CX0 1 "fits" ["record", "before"] spFits f3 fd3) :
    FnOk P w K mg base CX0 10 f fd ["disk", "at", "before"] (spRecA C PN PV) := by
  have sc := scRecA
  refine F.ok sc (fun vs H Q E h => ?_) (fun cdv A outer s H vs Q E hr h => ?_)
  · obtain ⟨Z, p, b, s, a, ws, bs, rfl, _⟩ := h
    rfl
  · obtain ⟨Z, p, b, ds, a, ws, bs, rfl, dl, hb, hbs, hw, hl, ha, h32, q⟩ := h
    refine ⟨_, (pss_cons (ps_set (i := 3) sc.nd rfl (Or.inl rfl) (pe_call FX.ok (hr.mono (by decide)) (by rfl) FX.m FX.kp FX.b .nil passN (pa_cons (pv 0) (pa_cons (pv 1) (pa_cons (pe_callB call_len_seq (by rfl) T.len (by decide +kernel) (pa_cons (pv 2) pa_nil)) pa_nil)))))
      (pss_cons (ps_set (i := 4) sc.nd rfl (Or.inl rfl) (pe_ifExp (pt_cmpR op_isN (pv 3) pe_non (nomark _)) pe_non (pe_call FR.ok hr (by rfl) FR.m FR.kp FR.b .nil pass0 (pa_cons (pv 3) pa_nil))))
      (pss_one (ps_ret (pe_ifExp (PW.pt (pw_and (pt_cmpR op_notN (pv 4) pe_non (nomark _)) (pw_and1 (pt_val (pe_call FF.ok (hr.mono (by decide)) (by rfl) FF.m FF.kp FF.b .nil pass0 (pa_cons (pv 4) (pa_cons (pv 2) pa_nil))))))) (pv 4) pe_non))))), ?_⟩
    have lw := pairLen hbs
    refine ⟨_, rfl, _, rfl, _, rfl, b, ws, rfl, .inl (SqL.of hb), Z, p, ds, a, ws.length, rfl, dl.da, ha, h32, fun H1 s1 => ?_⟩
    rw [lw]
    have dl1 := dl.same s1
    have st1 := dl.t2.st s1
    unfold rcM at q
    cases ht : txM ds a bs.length with
    | none =>
      rw [ht] at q
      refine ⟨_, rfl, rfl, _, rfl, iteT ?_⟩
      refine ⟨_, rfl, rfl, _, rfl, iteF (iteF ?_)⟩
      exact (q H1 st1).1 rfl
    | some L =>
      rw [ht] at q
      dsimp only at q
      have hL := txM_len ht
      refine ⟨_, rfl, rfl, _, rfl, iteF ?_⟩
      refine ⟨_, rfl, L, rfl, by omega, dl1.t2, fun H2 st2 => ⟨fun hn => ?_, fun x r hx rx => ?_⟩⟩
      · rw [hn] at q
        refine ⟨_, rfl, rfl, _, rfl, iteF (iteF ?_)⟩
        exact (q H2 (st1.trans st2)).1 rfl
      · rw [hx] at q
        dsimp only at q
        have st12 := st1.trans st2
        refine ⟨_, rfl, rfl, _, rfl, iteT ?_⟩
        refine ⟨_, rfl, _, rfl, r, b, x, ws, bs, rfl, rx, st12.k _ _ (fun ps z => by cases z) hb, hbs.st st12, hw, by omega, fun H3 s3 => ⟨_, rfl, ?_⟩⟩
        have st13 := st12.trans (st2.t.st s3)
        cases hf : fitM x bs with
        | true =>
          rw [if_pos hf] at q
          exact iteT ⟨_, rfl, (q H3 st13).2 x r rfl (RecAt.keep (fun q xs e => s3 q _ e) rx)⟩
        | false =>
          rw [if_neg (by rw [hf]; decide)] at q
          exact iteF ((q H3 st13).1 rfl)
end
end K7

set_option maxRecDepth 100000
set_option maxHeartbeats 4000000
/-! what can be read can be looked at; readable -/
namespace K7
open PySem hiding Tok code
open PySem.Spec PyProof.Rows GD K1
open L2 hiding rest
open K6 (Rec RecAt RecSm wR spWRec recV recA T2 ST recD)
open K4 (Blks BlkV encR iv decO DecV)
open K5 (DS DA Kz grow rdM stepS tnS cutM flM MO TxD TxP TxO passE z32)
abbrev sRdb : Stmt := topS 70
theorem joinL_mem {s : List Nat} : ∀ {ps : List (List Nat)} {p : List Nat} {c : Nat}, p ∈ ps → c ∈ p → c ∈ TL.joinL s ps
  | [], p, c, h, _ => by cases h
  | [q], p, c, h, hc => by rw [List.mem_singleton.mp h] at hc; exact hc
  | q :: r :: t, p, c, h, hc => by
    show c ∈ q ++ (s ++ TL.joinL s (r :: t))
    rcases List.mem_cons.mp h with rfl | h
    · exact List.mem_append.mpr (.inl hc)
    · exact List.mem_append.mpr (.inr (List.mem_append.mpr (.inr (joinL_mem h hc))))
theorem part_in {x : Rec} {p : Str} (h : p ∈ K6.partsR x) {c : Nat} (hc : c ∈ p.cps.toList) : c ∈ tL x := by
  unfold tL
  rw [K6.wR_list]
  exact joinL_mem (List.mem_map.mpr ⟨p, h, rfl⟩) hc
theorem str_cl {z : Str} (h : ∀ c ∈ z.cps.toList, c ≤ 126) : PyData.canLay0 (.str z) = true := by
  have e : z = S z.cps.toList := (S_of z).symm
  rw [e]
  show PyData.strOk (S z.cps.toList) = true
  unfold PyData.strOk
  show (z.cps.toList).toArray.all _ = true
  rw [List.all_toArray]
  refine List.all_eq_true.mpr fun c hc => decide_eq_true ?_
  have := h c hc
  omega
theorem tup_dp {ds : List PyData} {n : Nat} (h : ∀ d ∈ ds, d.depth ≤ n) : (PyData.tuple ds).depth ≤ n + 1 := by
  rw [PyData.depth]
  have := K4.dp_all h
  omega
theorem RW_of {x : Rec} (sm : RecSm x) (l : (tL x).length ≤ 720) (ch : ∀ c ∈ tL x, c ≤ 126) : RW x := by
  have pc : ∀ p ∈ K6.partsR x, ∀ c ∈ p.cps.toList, c ≤ 126 := fun p hp c hc => ch c (part_in hp hc)
  have wd : ∀ z ∈ ([("entries" : Str), "text", "remove", "update", "call"] : List Str), ∀ c ∈ z.cps.toList, c ≤ 126 := by decide +kernel
  refine ⟨⟨⟨sm, l⟩, fun c hc => by have := ch c hc; omega⟩, ?_, ?_⟩
  · cases x with
    | ent xs =>
      refine K4.cl_all fun d hd => ?_
      simp only [List.mem_cons, List.not_mem_nil, or_false] at hd
      rcases hd with rfl | rfl
      · exact str_cl (wd _ (by simp))
      · refine K4.cl_all fun d hd => ?_
        obtain ⟨z, hz, rfl⟩ := List.mem_map.mp hd
        exact str_cl (pc z (List.mem_cons_of_mem _ hz))
    | txt m t =>
      refine K4.cl_all fun d hd => ?_
      simp only [List.mem_cons, List.not_mem_nil, or_false] at hd
      rcases hd with rfl | rfl | rfl
      · exact str_cl (wd _ (by simp))
      · exact str_cl (pc m (by simp [K6.partsR]))
      · refine str_cl fun c hc => ?_
        have := pc (Txt.replace t "\n" "|") (by simp [K6.partsR])
        rw [K6.repl_to] at this
        have := this _ (List.mem_map.mpr ⟨c, hc, rfl⟩)
        by_cases e : c = 10
        · omega
        · rw [if_neg e] at this; exact this
    | rem m =>
      refine K4.cl_all fun d hd => ?_
      simp only [List.mem_cons, List.not_mem_nil, or_false] at hd
      rcases hd with rfl | rfl
      · exact str_cl (wd _ (by simp))
      · exact str_cl (pc m (by simp [K6.partsR]))
    | upd n =>
      refine K4.cl_all fun d hd => ?_
      simp only [List.mem_cons, List.not_mem_nil, or_false] at hd
      rcases hd with rfl | rfl
      · exact str_cl (wd _ (by simp))
      · rfl
    | call h n m f ad =>
      refine K4.cl_all fun d hd => ?_
      simp only [List.mem_cons, List.not_mem_nil, or_false] at hd
      rcases hd with rfl | rfl | rfl | rfl | rfl | rfl
      · exact str_cl (wd _ (by simp))
      · rfl
      · rfl
      · exact str_cl (pc m (by simp [K6.partsR]))
      · exact str_cl (pc f (by simp [K6.partsR]))
      · refine K4.cl_all fun d hd => ?_
        obtain ⟨a, ha, rfl⟩ := List.mem_map.mp hd
        cases a with
        | i n => rfl
        | s z =>
          refine str_cl fun c hc => pc (K6.aT (.s z)) ?_ c ?_
          · exact List.mem_cons_of_mem _ (List.mem_cons_of_mem _ (List.mem_cons_of_mem _ (List.mem_cons_of_mem _ (List.mem_cons_of_mem _ (List.mem_map.mpr ⟨_, ha, rfl⟩)))))
          · have e : (("\"" : Str) ++ z ++ "\"").cps.toList = TL.tl "\"" ++ TL.tl z ++ TL.tl "\"" := by
              show TL.tl _ = _
              rw [TL.tl_append, TL.tl_append]
            show c ∈ (("\"" : Str) ++ z ++ "\"").cps.toList
            rw [e]
            exact List.mem_append.mpr (.inl (List.mem_append.mpr (.inr hc)))
  · have st : ∀ z : Str, (PyData.str z).depth ≤ 3 := fun z => by rw [PyData.depth]; omega
    have it : ∀ i : Int, (PyData.int i).depth ≤ 3 := fun z => by rw [PyData.depth]; omega
    cases x with
    | ent xs =>
      refine Nat.le_trans (tup_dp (n := 3) fun d hd => ?_) (by decide)
      simp only [List.mem_cons, List.not_mem_nil, or_false] at hd
      rcases hd with rfl | rfl
      · exact st _
      · refine Nat.le_trans (tup_dp (n := 0) fun d hd => ?_) (by decide)
        obtain ⟨z, hz, rfl⟩ := List.mem_map.mp hd
        rw [PyData.depth]; omega
    | txt m t =>
      refine Nat.le_trans (tup_dp (n := 3) fun d hd => ?_) (by decide)
      simp only [List.mem_cons, List.not_mem_nil, or_false] at hd
      rcases hd with rfl | rfl | rfl <;> exact st _
    | rem m =>
      refine Nat.le_trans (tup_dp (n := 3) fun d hd => ?_) (by decide)
      simp only [List.mem_cons, List.not_mem_nil, or_false] at hd
      rcases hd with rfl | rfl <;> exact st _
    | upd n =>
      refine Nat.le_trans (tup_dp (n := 3) fun d hd => ?_) (by decide)
      simp only [List.mem_cons, List.not_mem_nil, or_false] at hd
      rcases hd with rfl | rfl
      · exact st _
      · exact it _
    | call h n m f ad =>
      refine Nat.le_trans (tup_dp (n := 3) fun d hd => ?_) (by decide)
      simp only [List.mem_cons, List.not_mem_nil, or_false] at hd
      rcases hd with rfl | rfl | rfl | rfl | rfl | rfl
      · exact st _
      · exact it _
      · exact it _
      · exact st _
      · exact st _
      · refine Nat.le_trans (tup_dp (n := 0) fun d hd => ?_) (by decide)
        obtain ⟨a, ha, rfl⟩ := List.mem_map.mp hd
        cases a <;> (show PyData.depth _ ≤ 0) <;> rw [K6.aD, PyData.depth] <;> omega
theorem rc_some {s : DS} {a : Nat} {bs : List Rec} {x : Rec} (h : rcM s a bs = some x) : txM s a bs.length = some (tL x) ∧ fitM x bs = true ∧ RW x := by
  unfold rcM at h
  cases ht : txM s a bs.length with
  | none => rw [ht] at h; cases h
  | some L =>
    rw [ht] at h
    dsimp only at h
    cases hr : K6.readM L with
    | none => rw [hr] at h; cases h
    | some y =>
      rw [hr] at h
      dsimp only at h
      by_cases hf : fitM y bs = true
      · rw [if_pos hf] at h
        cases h
        obtain ⟨h1, _, h3⟩ := K6.readM_some hr
        have hL := txM_len ht
        have e : tL x = L := by unfold tL; rw [h3]; rfl
        refine ⟨by rw [e], hf, RW_of (K6.readM_sm (by omega) hr) (by rw [e]; exact hL) fun c hc => ?_⟩
        rw [e] at hc
        have := List.all_eq_true.mp h1 c hc
        have := of_decide_eq_true this
        omega
      · rw [if_neg hf] at h; cases h
theorem eqv_len : ∀ {xs ys : List PyData}, PyData.eqvAll xs ys = true → xs.length = ys.length
  | [], [], _ => rfl
  | [], y :: ys, h => by simp [PyData.eqvAll] at h
  | x :: xs, [], h => by simp [PyData.eqvAll] at h
  | x :: xs, y :: ys, h => by
    rw [PyData.eqvAll, Bool.and_eq_true] at h
    rw [List.length_cons, List.length_cons, eqv_len h.2]
theorem tx_room {s : DS} {a n : Nat} {L : List Nat} (ha : a ≤ s.st.length) (h : txM s a n = some L) : a + K4.cnt L ≤ s.st.length ∧ a < s.st.length + 1 := by
  unfold txM at h
  by_cases ea : a = s.st.length
  · rw [if_pos ea] at h; cases h
  rw [if_neg ea] at h
  cases hd : decO (rdM s a) with
  | none => rw [hd] at h; cases h
  | some t =>
    obtain ⟨i, m, num, p⟩ := t
    rw [hd] at h
    dsimp only at h
    by_cases hm : (if ((s.st.length : Nat) : Int) - ((a : Nat) : Int) < 30 then ((s.st.length : Nat) : Int) - ((a : Nat) : Int) else 30) < m
    · rw [if_pos hm] at h; cases h
    rw [if_neg hm] at h
    have m30 : m ≤ (s.st.length : Int) - a := by
      by_cases z : ((s.st.length : Nat) : Int) - ((a : Nat) : Int) < 30
      · rw [if_pos z] at hm; omega
      · rw [if_neg z] at hm; omega
    cases hp : (bksM s a m).mapM decO with
    | none => rw [hp] at h; cases h
    | some ps =>
      rw [hp] at h
      dsimp only at h
      by_cases he : PyData.eqv (K4.blkD (encR (n : Nat) (ps.flatMap fun q => q.2.2.2))) (K4.blkD (bksM s a m)) = true
      · rw [if_pos he] at h
        cases h
        have he : PyData.eqvAll ((encR (n : Nat) (ps.flatMap fun q => q.2.2.2)).map K4.rowD) ((bksM s a m).map K4.rowD) = true := by
          unfold K4.blkD at he
          rw [PyData.eqv] at he
          exact he
        have := eqv_len he
        rw [List.length_map, List.length_map] at this
        have lb : (bksM s a m).length = m.toNat := by unfold bksM; rw [List.length_map, List.length_range]
        have le : (encR (n : Nat) (ps.flatMap fun q => q.2.2.2)).length = K4.cnt (ps.flatMap fun q => q.2.2.2) := by unfold encR; rw [List.length_map, List.length_range]
        omega
      · rw [if_neg he] at h; cases h
/-- all that can be read from a on, and where each ends -/
def rlM (s : DS) : Nat → Nat → List Rec → List Nat → List Rec × List Nat
  | 0, _, rs, es => (rs, es)
  | k + 1, a, rs, es => match rcM s a rs with
    | none => (rs, es)
    | some x => rlM s k (a + (rowB 0 x).length) (rs ++ [x]) (es ++ [a + (rowB 0 x).length])
theorem rowB_cnt (n : Nat) (x : Rec) : (rowB n x).length = K4.cnt (tL x) := by unfold rowB encR; rw [List.length_map, List.length_range]
theorem blk1 (x : Rec) : blkL 0 [x] = rowB 0 x := by show rowB 0 x ++ [] = _; rw [List.append_nil]
theorem RW_pos {x : Rec} : 1 ≤ (tL x).length := by
  have : ∃ p ∈ K6.partsR x, 1 ≤ p.cps.toList.length := ⟨K6.wordR x, by rw [K6.parts_eq]; exact List.mem_cons_self .., by cases x <;> (show 1 ≤ (Str.ofString _).cps.toList.length) <;> decide⟩
  obtain ⟨p, hp, h1⟩ := this
  obtain ⟨c, hc⟩ := List.exists_mem_of_length_pos (l := p.cps.toList) (by omega)
  exact List.length_pos_of_mem (part_in hp hc)
theorem cnt_pos (x : Rec) : 1 ≤ (rowB 0 x).length := by
  rw [rowB_cnt]
  have := RW_pos (x := x)
  unfold K4.cnt
  omega
theorem rc_room {s : DS} {a : Nat} {bs : List Rec} {x : Rec} (ha : a ≤ s.st.length) (h : rcM s a bs = some x) : a + (rowB 0 x).length ≤ s.st.length := by
  rw [rowB_cnt]
  exact (tx_room ha (rc_some h).1).1
theorem rlM_fuel {s : DS} : ∀ (k : Nat) (a : Nat) (rs : List Rec) (es : List Nat), a ≤ s.st.length → s.st.length + 1 - a ≤ k → rlM s k a rs es = rlM s (s.st.length + 1 - a) a rs es
  | 0, a, rs, es, ha, hk => by omega
  | k + 1, a, rs, es, ha, hk => by
    rw [show s.st.length + 1 - a = (s.st.length - a) + 1 by omega, rlM, rlM]
    cases h : rcM s a rs with
    | none => rfl
    | some x =>
      have h1 := rc_room ha h
      have h2 := cnt_pos x
      dsimp only
      rw [rlM_fuel k _ _ _ h1 (by omega), rlM_fuel (s.st.length - a) _ _ _ h1 (by omega)]
theorem seq_mid {A B : TS} {D : Ends} {σ : L2.St} {H : Hp} (M : L2.St → Hp → Prop) (h2 : ∀ σ' H', M σ' H' → B D σ' H') (h1 : (∀ σ' H', M σ' H' → B D σ' H') → tSeq A B D σ H) : tSeq A B D σ H := h1 h2
section
variable {P : Program} {w : World} {K : PySem.W.Frag} {mg : Str → Option Value} {base : Heap} {C CL NO LF PC D PN PV : Addr}
def spRdb (C PN PV : Addr) : L2.Sp := fun vs H Q _ => ∃ (Z : Addr → Prop) (p : Addr) (s : DS), vs = [.ref p] ∧ DL C PN PV Z H p s ∧ (∀ i < s.st.length, (rdM s i).length = 32 ∧ ∀ y ∈ rdM s i, 0 ≤ y ∧ y ≤ 255) ∧
  ∀ H' t r e ws rs es, ST PN PV H H' → rlM s (s.st.length + 1) 0 [] [] = (rs, es) → (∀ x ∈ rs, RW x) → rs.length ≤ s.st.length → H r = none → H e = none → H' t = some (.tup [.ref r, .ref e]) → H' r = some (.lst ws) → LsR H' ws rs → H' e = some (.lst (es.map fun n => V.int ((n : Nat) : Int))) → es.length = rs.length → Q (.ref t) H'
theorem scRdb : FnScope ["disk", "records", "ends", "at", "record"] ["disk"] (defScope sRdb) := ⟨rfl, rfl, rfl, by decide +kernel, rfl, by decide +kernel, by decide +kernel⟩
theorem ok_rdb {f f1 f2 : Addr} {fd fd1 fd2 : FuncData} (F : Fun K "readable" "readable" sRdb f fd) (T : Txt K mg)
    (FR : K5.FO P w K mg base CX0 10 "record_at" ["disk", "at", "before"] (spRecA C PN PV) f1 fd1) (FB : K5.FO P w K mg base CX0 3 "blocks_of" ["rows", "first"] spBlk f2 fd2) : FnOk P w K mg base CX0 11 f fd ["disk"] (spRdb C PN PV) := by
  have sc := scRdb
  refine F.ok sc (fun vs H Q E h => ?_) (fun cdv A outer s H vs Q E hr h => ?_)
  · obtain ⟨Z, p, s, rfl, _⟩ := h
    rfl
  · obtain ⟨Z, p, ds, rfl, dl, h32, q⟩ := h
    refine ⟨_, (pss_cons (ps_set (i := 1) sc.nd rfl (Or.inl rfl) (pe_lst pa_nil))
      (pss_cons (ps_set (i := 2) sc.nd rfl (Or.inl rfl) (pe_lst pa_nil))
      (pss_cons (ps_set (i := 3) sc.nd rfl (Or.inl rfl) pe_int)
      (pss_cons (ps_set (i := 4) sc.nd rfl (Or.inl rfl) (pe_call FR.ok hr (by rfl) FR.m FR.kp FR.b .nil pass0 (pa_cons (pv 0) (pa_cons (pv 3) (pa_cons (pv 1) pa_nil)))))
      (pss_cons (ps_while PassesOwn.never (pt_cmpR op_notN (pv 4) pe_non (nomark _))
      (pss_cons (ps_aug (i := 3) sc.nd rfl (Or.inl rfl) (pe_callB call_len_seq (by rfl) T.len (by decide +kernel) (pa_cons (pe_call FB.ok (hr.mono (by decide)) (by rfl) FB.m FB.kp FB.b .nil pass0 (pa_cons (pe_lst (pa_cons (pv 4) pa_nil)) (pa_cons pe_int pa_nil))) pa_nil)) ip_add)
      (pss_cons (ps_expr (pe_bm PySem.F.plainAttrs_list PySem.F.slot_list_append PySem.F.type_list_append mt_append (pv 1) (pa_cons (pv 4) pa_nil)))
      (pss_cons (ps_expr (pe_bm PySem.F.plainAttrs_list PySem.F.slot_list_append PySem.F.type_list_append mt_append (pv 2) (pa_cons (pv 3) pa_nil)))
      (pss_one (ps_set (i := 4) sc.nd rfl (Or.inl rfl) (pe_call FR.ok hr (by rfl) FR.m FR.kp FR.b .nil pass0 (pa_cons (pv 0) (pa_cons (pv 3) (pa_cons (pv 1) pa_nil))))))))))
      (pss_one (ps_ret (pe_tup (pa_cons (pv 1) (pa_cons (pv 2) pa_nil)))))))))), ?_⟩
    refine ⟨Nat.zero_le _, fun r nr => ⟨Nat.zero_le _, fun e ne => ?_⟩⟩
    have nre : r ≠ e := fun z => by rw [← z, upd_same] at ne; cases ne
    have He : H e = none := by rw [upd_ne nre.symm] at ne; exact ne
    have s0 : Same H (upd (upd H r (.lst [])) e (.lst [])) := K5.snew (Same.lst (Same.refl H) nr) ne
    have er0 : upd (upd H r (.lst [])) e (.lst []) r = some (.lst []) := by rw [upd_ne nre]; exact upd_same
    have ee0 : upd (upd H r (.lst [])) e (.lst []) e = some (.lst []) := upd_same
    generalize upd (upd H r (.lst [])) e (.lst []) = H0 at *
    have hst : ds.st.length ≤ 400 := dl.da.hi
    have st0 : ST PN PV H H0 := dl.t2.st s0
    let Inv : Nat → L2.St → Hp → Prop := fun a σ H' => ∃ (rs : List Rec) (es : List Nat) (ws : List V) (y : V), σ = [some (.ref p), some (.ref r), some (.ref e), some (.int ((a : Nat) : Int)), some y] ∧ ST PN PV H H' ∧ H' r = some (.lst ws) ∧ LsR H' ws rs ∧ H' e = some (.lst (es.map fun n => V.int ((n : Nat) : Int))) ∧ es.length = rs.length ∧ rs.length ≤ a ∧ a ≤ ds.st.length ∧ (∀ x ∈ rs, RW x) ∧
      (rcM ds a rs = none → y = .non) ∧ (∀ x, rcM ds a rs = some x → ∃ rr, y = .ref rr ∧ RecAt H' rr x) ∧ rlM ds (ds.st.length + 1) 0 [] [] = rlM ds (ds.st.length + 1 - a) a rs es
    refine nxp (nxp ?_)
    refine seq_mid (A := tAsg _ _) (Inv 0) ?_ (fun mid => ?_)
    rotate_left
    · refine ⟨_, rfl, _, rfl, _, rfl, Z, p, r, ds, 0, [], [], rfl, dl.st st0, er0, .nil, fun x h => (by cases h), by decide, Nat.zero_le _, h32, fun H1 st1 => ⟨fun hn => ?_, fun x rr hx rx => ?_⟩⟩
      · exact mid _ _ ⟨[], [], [], .non, rfl, st0.trans st1, st1.k _ _ (fun ps z => by cases z) er0, .nil, st1.k _ _ (fun ps z => by cases z) ee0, rfl, Nat.le_refl _, Nat.zero_le _, fun x h => (by cases h), fun _ => rfl, (fun x hx => (by rw [hn] at hx; cases hx)), rfl⟩
      · exact mid _ _ ⟨[], [], [], .ref rr, rfl, st0.trans st1, st1.k _ _ (fun ps z => by cases z) er0, .nil, st1.k _ _ (fun ps z => by cases z) ee0, rfl, Nat.le_refl _, Nat.zero_le _, fun x h => (by cases h), (fun hn => (by rw [hn] at hx; cases hx)), (fun y hy => (by rw [hx] at hy; cases hy; exact ⟨rr, rfl, rx⟩)), rfl⟩
    rintro σ1 H1 hI1
    refine ⟨fun m σ H' => ∃ a, Inv a σ H' ∧ m = ds.st.length - a, ⟨_, 0, hI1, rfl⟩, ?_⟩
    rintro m σ H2 ⟨a, ⟨rs, es, ws, y, rfl, st2, er, lr, ee, le, la, ha, hw, hn, hs, hrl⟩, rfl⟩
    refine ⟨_, rfl, rfl, _, rfl, ?_⟩
    cases hr2 : rcM ds a rs with
    | none =>
      have hy := hn hr2
      subst hy
      refine iteF ?_
      have : rlM ds (ds.st.length + 1) 0 [] [] = (rs, es) := by
        rw [hrl, show ds.st.length + 1 - a = (ds.st.length - a) + 1 by omega, rlM, hr2]
      refine ⟨_, rfl, _, rfl, two_le, fun t nt => ?_⟩
      have s3 : Same H2 (upd H2 t (.tup [.ref r, .ref e])) := Same.lst (Same.refl _) nt
      exact q _ t r e ws rs es (st2.trans (st2.t.st s3)) this hw (by omega) nr He upd_same (s3 _ _ er) (lr.keep fun q xs e => s3 q _ e) (s3 _ _ ee) le
    | some x =>
      obtain ⟨rr, rfl, rx⟩ := hs x hr2
      obtain ⟨t1, t2, t3⟩ := rc_some hr2
      have hroom := rc_room ha hr2
      have hpos := cnt_pos x
      refine iteT ⟨fun σ' H' => ∃ a', Inv a' σ' H' ∧ a < a', fun σ' H' ⟨a', hI, lt⟩ => ⟨ds.st.length - a', ?_, a', hI, rfl⟩, ?_⟩
      · obtain ⟨_, _, _, _, _, _, _, _, _, _, _, h9, _⟩ := hI
        omega
      refine ⟨_, rfl, ?_⟩
      refine ⟨_, rfl, (by show 1 ≤ sizeLine; decide), fun l nl => ?_⟩
      have s3 : Same H2 (upd H2 l (.lst [.ref rr])) := Same.lst (Same.refl _) nl
      have el : upd H2 l (.lst [.ref rr]) l = some (.lst [.ref rr]) := upd_same
      generalize upd H2 l (.lst [.ref rr]) = H3 at *
      refine ⟨l, [.ref rr], [x], 0, rfl, el, .cons ⟨rr, rfl, RecAt.keep (fun q xs e => s3 q _ e) rx⟩ .nil, fun y hy => by rw [List.mem_singleton.mp hy]; exact t3.b.1, Nat.le_of_ble_eq_true rfl, by decide, fun H4 D4 us s4 n4 e4 bl fr => ?_⟩
      have lu := pairLen bl
      rw [blk1] at lu
      have s24 : Same H2 H4 := fun z o e => s4 _ _ (s3 _ _ e)
      refine ⟨D4, us, rfl, .inl (SqL.of e4), _, _, rfl, rfl, ?_⟩
      rw [lu, show (fun i j : Int => i + j) ((a : Nat) : Int) (((rowB 0 x).length : Nat) : Int) = ((a + (rowB 0 x).length : Nat) : Int) from (by show ((a : Nat) : Int) + (((rowB 0 x).length : Nat) : Int) = _; omega)]
      have er4 := s24 _ _ er
      have ee4 := s24 _ _ ee
      have lw := pairLen lr
      refine nxp ⟨_, rfl, .inl ⟨rfl, _, SqL.of er4⟩, _, rfl, r, ws, _, rfl, rfl, er4, szlt (by omega), ?_⟩
      have ee5 : upd H4 r (.lst (ws ++ [.ref rr])) e = some (.lst (es.map fun n => V.int ((n : Nat) : Int))) := by rw [upd_ne nre.symm]; exact ee4
      refine nxp ⟨_, rfl, .inl ⟨rfl, _, SqL.of ee5⟩, _, rfl, e, _, _, rfl, rfl, ee5, szlt (by rw [List.length_map]; omega), ?_⟩
      have st4 := st2.trans (st2.t.st s24)
      have st6 := (st4.wr (o := .lst (ws ++ [.ref rr])) nr er4).wr (o := .lst ((es.map fun n => V.int ((n : Nat) : Int)) ++ [.int ((a + (rowB 0 x).length : Nat) : Int)])) He ee5
      have er6 : upd (upd H4 r (.lst (ws ++ [.ref rr]))) e (.lst ((es.map fun n => V.int ((n : Nat) : Int)) ++ [.int ((a + (rowB 0 x).length : Nat) : Int)])) r = some (.lst (ws ++ [.ref rr])) := by rw [upd_ne nre]; exact upd_same
      have ee6 : upd (upd H4 r (.lst (ws ++ [.ref rr]))) e (.lst ((es.map fun n => V.int ((n : Nat) : Int)) ++ [.int ((a + (rowB 0 x).length : Nat) : Int)])) e = some (.lst ((es ++ [a + (rowB 0 x).length]).map fun n => V.int ((n : Nat) : Int))) := by rw [upd_same, List.map_append]; rfl
      have tup : ∀ q xs, H2 q = some (.tup xs) → upd (upd H4 r (.lst (ws ++ [.ref rr]))) e (.lst ((es.map fun n => V.int ((n : Nat) : Int)) ++ [.int ((a + (rowB 0 x).length : Nat) : Int)])) q = some (.tup xs) := fun q xs h => by
        have h4 := s24 _ _ h
        rw [upd_ne (ne_of h4 ee4 (by intro z; cases z)), upd_ne (ne_of h4 er4 (by intro z; cases z))]
        exact h4
      have lr6 : LsR (upd (upd H4 r (.lst (ws ++ [.ref rr]))) e (.lst ((es.map fun n => V.int ((n : Nat) : Int)) ++ [.int ((a + (rowB 0 x).length : Nat) : Int)]))) (ws ++ [.ref rr]) (rs ++ [x]) := pairApp (lr.keep tup) (.cons ⟨rr, rfl, RecAt.keep tup rx⟩ .nil)
      generalize upd (upd H4 r (.lst (ws ++ [.ref rr]))) e (.lst ((es.map fun n => V.int ((n : Nat) : Int)) ++ [.int ((a + (rowB 0 x).length : Nat) : Int)])) = H6 at *
      have hw6 : ∀ y ∈ rs ++ [x], RW y := fun y hy => (List.mem_append.mp hy).elim (hw y) fun h => by rw [List.mem_singleton.mp h]; exact t3
      have hrl6 : rlM ds (ds.st.length + 1) 0 [] [] = rlM ds (ds.st.length + 1 - (a + (rowB 0 x).length)) (a + (rowB 0 x).length) (rs ++ [x]) (es ++ [a + (rowB 0 x).length]) := by
        rw [hrl, show ds.st.length + 1 - a = (ds.st.length - a) + 1 by omega, rlM, hr2]
        exact rlM_fuel (ds.st.length - a) _ _ _ hroom (by omega)
      have l6 : (rs ++ [x]).length = rs.length + 1 := by rw [List.length_append]; rfl
      refine nxp ⟨_, rfl, _, rfl, _, rfl, Z, p, r, ds, a + (rowB 0 x).length, _, rs ++ [x], rfl, dl.st st6, er6, lr6, hw6, by omega, hroom, h32, fun H7 st7 => ⟨fun hn7 => ?_, fun x7 r7 hx7 rx7 => ?_⟩⟩
      · exact ⟨_, ⟨rs ++ [x], es ++ [a + (rowB 0 x).length], _, .non, rfl, st6.trans st7, st7.k _ _ (fun ps z => by cases z) er6, lr6.st st7, st7.k _ _ (fun ps z => by cases z) ee6, by rw [List.length_append, l6, le]; rfl, by omega, hroom, hw6, fun _ => rfl, (fun x hx => (by rw [hn7] at hx; cases hx)), hrl6⟩, by omega⟩
      · exact ⟨_, ⟨rs ++ [x], es ++ [a + (rowB 0 x).length], _, .ref r7, rfl, st6.trans st7, st7.k _ _ (fun ps z => by cases z) er6, lr6.st st7, st7.k _ _ (fun ps z => by cases z) ee6, by rw [List.length_append, l6, le]; rfl, by omega, hroom, hw6, (fun hn => (by rw [hn] at hx7; cases hx7)), (fun y hy => (by rw [hx7] at hy; cases hy; exact ⟨r7, rfl, rx7⟩)), hrl6⟩, by omega⟩
end
end K7

set_option maxRecDepth 100000
set_option maxHeartbeats 4000000
/-! open_log -/
namespace K7
open PySem hiding Tok code
open PySem.Spec PyProof.Rows GD K1
open L2 hiding rest
open K6 (Rec RecAt RecSm wR spWRec recV recA T2 ST recD)
open K4 (Blks BlkV encR iv decO DecV)
open K5 (DS DA Kz grow rdM stepS tnS cutM flM MO TxD TxP TxO passE z32)
abbrev sOpen : Stmt := topS 69
theorem cutTn (xs : List V) (n : Nat) : cutV xs none (some (n : Int)) = xs.take n := by
  unfold cutV
  have e1 : HT.sIx xs.length 0 none = 0 := rfl
  have e2 : HT.sIx xs.length xs.length (some (n : Int)) = min n xs.length := HT.sIx_nat _ _ n
  rw [e1, e2, List.drop_zero, Nat.sub_zero]
  exact (List.take_eq_take_min).symm
theorem pairTake {α β : Type} {R : α → β → Prop} {l : List α} {m : List β} (h : Paired R l m) : ∀ n, Paired R (l.take n) (m.take n) := by
  induction h with
  | nil => intro n; rw [List.take_nil, List.take_nil]; exact .nil
  | cons r _ ih =>
    intro n
    cases n with
    | zero => exact .nil
    | succ n => exact .cons r (ih n)
structure RlI (s : DS) (rs : List Rec) (es : List Nat) : Prop where
  e : ∀ n ∈ es, n ≤ s.st.length
  f : rs ≠ [] → ∃ xs r, rs = .ent xs :: r
  l : es.length = rs.length
theorem rlM_inv {s : DS} : ∀ (k a : Nat) (rs : List Rec) (es : List Nat), a ≤ s.st.length → RlI s rs es → RlI s (rlM s k a rs es).1 (rlM s k a rs es).2
  | 0, a, rs, es, _, h => h
  | k + 1, a, rs, es, ha, h => by
    rw [rlM]
    cases h1 : rcM s a rs with
    | none => exact h
    | some x =>
      have hr := rc_room ha h1
      refine rlM_inv k _ _ _ hr ⟨fun n hn => ?_, fun _ => ?_, by rw [List.length_append, List.length_append, h.l]; rfl⟩
      · rcases List.mem_append.mp hn with hn | hn
        · exact h.e n hn
        · rw [List.mem_singleton.mp hn]; exact hr
      · cases hrs : rs with
        | nil =>
          have hf := (rc_some h1).2.1
          rw [hrs] at hf
          unfold fitM at hf
          cases x with
          | ent xs => exact ⟨xs, [], rfl⟩
          | txt _ _ => cases hf
          | rem _ => cases hf
          | upd _ => cases hf
          | call _ _ _ _ _ => cases hf
        | cons y r =>
          obtain ⟨xs, r', e⟩ := h.f (by rw [hrs]; exact fun z => by cases z)
          rw [hrs] at e
          cases e
          exact ⟨xs, r ++ [x], rfl⟩
theorem cwM_le : ∀ (bs : List Rec) (k w : Nat) (ch : List Str), w < k → w ≤ cwM bs k w ch ∧ cwM bs k w ch < k + bs.length
  | [], k, w, ch, h => ⟨Nat.le_refl _, h⟩
  | x :: r, k, w, ch, h => by
    have step : ∀ ch', w ≤ cwM r (k + 1) w ch' ∧ cwM r (k + 1) w ch' < k + (x :: r).length := fun ch' => by
      have := cwM_le r (k + 1) w ch' (by omega)
      rw [List.length_cons]
      omega
    have end_ : ∀ n, w ≤ (if ch.length ≠ n ∨ K6.twB ch = true then w else cwM r (k + 1) k []) ∧ (if ch.length ≠ n ∨ K6.twB ch = true then w else cwM r (k + 1) k []) < k + (x :: r).length := fun n => by
      have := cwM_le r (k + 1) k [] (by omega)
      rw [List.length_cons]
      by_cases z : ch.length ≠ n ∨ K6.twB ch = true
      · rw [if_pos z]; omega
      · rw [if_neg z]; omega
    cases x with
    | txt m _ => exact step _
    | rem m => exact step _
    | upd n => exact end_ n
    | ent _ => exact end_ 0
    | call _ _ _ _ _ => exact end_ 0
theorem cw_pos {xs : List Str} {r : List Rec} : 1 ≤ cwM (.ent xs :: r) 1 0 [] ∧ cwM (.ent xs :: r) 1 0 [] ≤ (Rec.ent xs :: r).length := by
  have h : cwM (.ent xs :: r) 1 0 [] = cwM r 2 1 [] := by
    show (if ([] : List Str).length ≠ 0 ∨ K6.twB [] = true then 0 else cwM r 2 1 []) = _
    exact if_neg (fun z => z.elim (fun z => z rfl) (fun z => by cases z))
  have := cwM_le r 2 1 [] (by decide)
  rw [h, List.length_cons]
  omega
/-- what an opening finds -/
def allM (s : DS) : List Rec × List Nat := rlM s (s.st.length + 1) 0 [] []
def whM (s : DS) : Nat := cwM (allM s).1 1 0 []
def usM (s : DS) : Nat := (allM s).2.getD (whM s - 1) 0
section
variable {P : Program} {w : World} {K : PySem.W.Frag} {mg : Str → Option Value} {base : Heap} {C CL NO LF PC D PN PV NK : Addr}
def spOpen (C CL PC NK PN PV : Addr) : L2.Sp := fun vs H Q E => ∃ (Z : Addr → Prop) (p : Addr) (s : DS), vs = [.ref p] ∧ DL C PN PV Z H p s ∧ (∀ i < s.st.length, (rdM s i).length = 32 ∧ ∀ y ∈ rdM s i, 0 ≤ y ∧ y ≤ 255) ∧ s.wa.length ≤ 400 ∧ (tnS s).length ≤ 1000 ∧
  ((allM s).1 = [] → ∀ H', ST PN PV H H' → E (.ref NK) none H') ∧ ((allM s).1 ≠ [] →
    (∀ s' H' Z' lp R, clM s (usM s) = .inr s' → DL C PN PV Z' H' p s' → Fr Z H Z' H' → LG CL H' lp p R ((allM s).1.take (whM s)) (usM s) s'.cuts → ¬ Z' lp → ¬ Z' R → lp ≠ R → (∀ q o, ¬ Z q → (∀ ps, o ≠ .tbl ps) → H q = some o → q ≠ lp ∧ q ≠ R) → (∀ x ∈ (allM s).1, RW x) → usM s ≤ s.st.length → Q (.ref lp) H') ∧
    ∀ s' H' Z', clM s (usM s) = .inl s' → DL C PN PV Z' H' p s' → Fr Z H Z' H' → E (.ref PC) none H')
theorem scOpen : FnScope ["disk", "records", "ends", "whole", "used"] ["disk"] (defScope sOpen) := ⟨rfl, rfl, rfl, by decide +kernel, rfl, by decide +kernel, by decide +kernel⟩
theorem ok_open {f f0 f1 f2 f3 : Addr} {fd fd0 fd1 fd2 fd3 : FuncData} (F : Fun K "open_log" "open_log" sOpen f fd) (T : Txt K mg) (TL : TxL K mg CL) (TK : TxP K mg "NotKept" NK)
    (FR : K5.FO P w K mg base CX0 11 "readable" ["disk"] (spRdb C PN PV) f1 fd1) (FW : K5.FO P w K mg base CX0 2 "count_whole" ["records"] spCW f2 fd2) (FC : K5.FO P w K mg base (L2.CX P w) 7 "clear" ["disk", "first"] (spClear C PC PN PV) f3 fd3)
    (ML : Mk K CL f0) (bL : Binds K fd0 ["self", "disk", "rows", "used"] []) (OL : FnOk P w K mg base CX0 2 f0 fd0 ["self", "disk", "rows", "used"] (spLInit C CL)) : FnOk P w K mg base (L2.CX P w) 12 f fd ["disk"] (spOpen C CL PC NK PN PV) := by
  have sc := scOpen
  refine F.okX sc (fun vs H Q E h => ?_) (fun cdv A outer s H vs Q E hr h => ?_)
  · obtain ⟨Z, p, s, rfl, _⟩ := h
    rfl
  · obtain ⟨Z, p, ds, rfl, dl, h32, hw, ht, q1, q2⟩ := h
    refine ⟨_, (pss_cons (ps_asg (pe_call FR.ok hr (by rfl) FR.m FR.kp FR.b .nil pass0 (pa_cons (pv 0) pa_nil)) (pg_tup rfl (pgs_cons (pg_name (i := 1) sc.nd rfl (Or.inl rfl)) (pgs_cons (pg_name (i := 2) sc.nd rfl (Or.inl rfl)) pgs_nil))))
      (pss_cons (ps_if (pt_cmpR (op_eqD hr.units) (pv 1) (pe_lst pa_nil) (nomark _))
      (pss_one (ps_raise rfl (takes_of rfl rfl rfl rfl) (pmk_own PySem.F.excBase_ValueError TK.x TK.g TK.k (raises_own TK.b TK.t) rfl)))
      pss_nil)
      (pss_cons (ps_set (i := 3) sc.nd rfl (Or.inl rfl) (pe_call FW.ok (hr.mono (by decide)) (by rfl) FW.m FW.kp FW.b .nil pass0 (pa_cons (pv 1) pa_nil)))
      (pss_cons (ps_set (i := 4) sc.nd rfl (Or.inl rfl) (pe_ix ix_list (pv 2) (pe_op op_sub (pv 3) pe_int) (fun _ _ => rfl)))
      (pss_cons (ps_expr (pe_call FC.ok (hr.mono (by decide)) (by rfl) FC.m FC.kp FC.b .nil passE (pa_cons (pv 0) (pa_cons (pv 4) pa_nil))))
      (pss_one (ps_ret (pe_make ML OL (hr.mono (by decide)) rfl TL.g bL .nil pass0 (pa_cons (pv 0) (pa_cons (pe_slice sl_list (pv 1) po_none (po_some (pv 3))) (pa_cons (pv 4) pa_nil))))))))))), ?_⟩
    refine ⟨_, rfl, Z, p, ds, rfl, dl, h32, fun H1 t r e ws rs es st1 hrl hrw hlen nr ne ht1 er lr ee le => ?_⟩
    have hst : ds.st.length ≤ 400 := dl.da.hi
    have i1 := rlM_inv (s := ds) (ds.st.length + 1) 0 [] [] (Nat.zero_le _) ⟨fun n h => (by cases h), fun h => absurd rfl h, rfl⟩
    have ea : allM ds = (rs, es) := hrl
    rw [hrl] at i1
    have i1 : RlI ds rs es := i1
    have lw := pairLen lr
    refine ⟨t, _, rfl, SqT.of ht1, rfl, _, _, rfl, _, _, rfl, rfl, ?_⟩
    have zr : ¬ Z r := dl.no nr
    refine nxp ⟨_, rfl, Nat.zero_le _, fun e9 ne9 => ?_⟩
    have s2 : Same H1 (upd H1 e9 (.lst [])) := Same.lst (Same.refl _) ne9
    refine ⟨.list (rs.map recD), .list [], .lst (SqL.of (s2 _ _ er)) (recs_dp (lr.keep fun q xs e => s2 q _ e)), .lst (SqL.of upd_same) .nil, recs_sh hrw, rfl, ?_⟩
    rw [eqv_nil]
    generalize upd H1 e9 (.lst []) = H2 at *
    have st2 := st1.trans (st1.t.st s2)
    refine ⟨_, rfl, ?_⟩
    cases hrs : rs.isEmpty with
    | true =>
      have : rs = [] := by cases rs with | nil => rfl | cons _ _ => cases hrs
      exact iteT (q1 (by rw [ea]; exact this) H2 st2)
    | false =>
      have hne : rs ≠ [] := fun z => by rw [z] at hrs; cases hrs
      obtain ⟨q3, q4⟩ := q2 (by rw [ea]; exact hne)
      obtain ⟨xs0, r0, hent⟩ := i1.f hne
      have cp := cw_pos (xs := xs0) (r := r0)
      rw [← hent] at cp
      obtain ⟨wh, ewh⟩ : ∃ wh, wh = cwM rs 1 0 [] := ⟨_, rfl⟩
      have ewh2 : whM ds = wh := by unfold whM; rw [ea]; exact ewh.symm
      rw [← ewh] at cp
      obtain ⟨u, hu⟩ : ∃ u, es[wh - 1]? = some u := ⟨_, List.getElem?_eq_getElem (by omega)⟩
      have eus : usM ds = u := by
        unfold usM
        rw [ea, ewh2]
        show es.getD (wh - 1) 0 = u
        rw [List.getD_eq_getElem?_getD, hu]
        rfl
      have hus : u ≤ ds.st.length := i1.e u (List.mem_of_getElem? hu)
      rw [ewh2, eus, ea] at q3
      rw [eus] at q4
      refine iteF (nxp ⟨_, rfl, r, ws, rs, rfl, s2 _ _ er, lr.keep (fun q xs e => s2 q _ e), by omega, fun H3 s3 => ?_⟩)
      rw [← ewh]
      have s13 : Same H1 H3 := fun z o e => s3 _ _ (s2 _ _ e)
      have st3 := st1.trans (st1.t.st s13)
      refine nxp ⟨_, rfl, _, rfl, _, _, rfl, rfl, e, _, _, .int ((u : Nat) : Int), rfl, rfl, SqL.of (s13 _ _ ee), ?_, ?_⟩
      · show atI _ (((wh : Nat) : Int) - 1) = _
        rw [show ((wh : Nat) : Int) - 1 = ((wh - 1 : Nat) : Int) by omega]
        exact atI_nat (by rw [List.getElem?_map, hu]; rfl)
      have dl3 := dl.st st3
      refine nxp ⟨_, rfl, _, rfl, Z, p, ds, u, rfl, dl3, hus, hw, ht, fun s' H4 Z4 hc dl4 f4 => ?_, fun s' H4 Z4 hc dl4 f4 => q4 s' H4 Z4 hc dl4 ((Fr.st st3).trans f4)⟩
      have er4 := f4 r _ zr (fun ps z => by cases z) (s13 _ _ er)
      have lr4 := (lr.keep fun q xs e => s13 q _ e).fr dl3.nt f4
      refine ⟨_, rfl, _, rfl, _, rfl, _, rfl, r, ws, rfl, SqL.of er4.1, fun D nD => ⟨_, rfl, fun x dx nx ndx nex => ?_⟩⟩
      rw [cutTn] at nx ndx ⊢
      have s5 : Same H4 (upd H4 D (.lst (ws.take wh))) := Same.lst (Same.refl _) nD
      have eD : upd H4 D (.lst (ws.take wh)) D = some (.lst (ws.take wh)) := upd_same
      generalize upd H4 D (.lst (ws.take wh)) = H5 at *
      have s6 : Same H5 (upd (upd H5 dx (.own x)) x (.ins CL dx [])) := fun b o hb => by rw [upd_ne (ne_of_none hb nx), upd_ne (ne_of_none hb ndx)]; exact hb
      have ex6 : upd (upd H5 dx (.own x)) x (.ins CL dx []) x = some (.ins CL dx []) := upd_same
      generalize upd (upd H5 dx (.own x)) x (.ins CL dx []) = H6 at *
      have dl5 := dl4.same s5
      have zx : ¬ Z4 x := dl5.no nx
      refine ⟨Z4, x, dx, p, D, s', ws.take wh, u, rfl, ex6, zx, (dl5.da.sm s6), s6 _ _ eD, fun H9 R nR eR elp same9 => ?_⟩
      have s49 : Same H4 H9 := fun b o hb => by
        have h5 := s5 _ _ hb
        have h6 := s6 _ _ h5
        rw [same9 b (ne_of_none h5 nx) (ne_of_none h6 nR)]
        exact h6
      have f09 : Fr Z H Z4 H9 := (Fr.st st3).trans (f4.trans (Fr.same s49))
      have lr9 : LsR H9 (ws.take wh) (rs.take wh) := pairTake (lr4.keep fun q xs e => s49 q _ e) wh
      have zR : ¬ Z4 R := (dl5.same s6).no nR
      have xR : x ≠ R := fun z => by rw [← z, ex6] at nR; cases nR
      exact ⟨rfl, q3 s' H9 Z4 x R hc (dl4.same s49) f09 ⟨dx, _, elp, eR, lr9⟩ zx zR xR (fun q o z n hq => by
        have h4 := (((Fr.st st3).trans f4) q o z n hq).1
        exact ⟨ne_of_none (s5 _ _ h4) nx, ne_of_none (s6 _ _ (s5 _ _ h4)) nR⟩) hrw hus⟩
end
end K7

set_option maxRecDepth 100000
set_option maxHeartbeats 4000000
/-! what is read back -/
namespace K7
open PySem hiding Tok code
open PySem.Spec PyProof.Rows GD K1
open L2 hiding rest
open K6 (Rec RecAt RecSm wR spWRec recV recA T2 ST recD RecOK)
open K4 (Blks BlkV encR iv decO DecV)
open K5 (DS DA Kz grow rdM stepS tnS cutM flM MO TxD TxP TxO passE z32)
/-! ### reading behind writes -/
def fR (i : Nat) (f : List Int) (e : Nat × List Int) : List Int := if e.1 = i then e.2 else f
theorem rd_app (st : List (List Int)) (wa l : List (Nat × List Int)) (c : Nat) (sc : Option (Nat × List Int)) (i : Nat) : rdM ⟨st, wa ++ l, c, sc⟩ i = l.foldl (fR i) (rdM ⟨st, wa, c, sc⟩ i) := by
  show (wa ++ l).foldl (fR i) _ = l.foldl (fR i) (wa.foldl (fR i) _)
  rw [List.foldl_append]
theorem fold_out {i : Nat} : ∀ {l : List (Nat × List Int)} {f : List Int}, (∀ e ∈ l, e.1 ≠ i) → l.foldl (fR i) f = f
  | [], f, _ => rfl
  | e :: r, f, h => by
    rw [List.foldl_cons, show fR i f e = f from if_neg (h e (List.mem_cons_self ..))]
    exact fold_out fun x hx => h x (List.mem_cons_of_mem _ hx)
theorem fold_map {i n : Nat} {g : Nat → Nat × List Int} {f : List Int} (hg : ∀ j < n, (g j).1 = i → ∀ k < n, (g k).1 = i → k = j) : ∀ j < n, (g j).1 = i → ((List.range n).map g).foldl (fR i) f = (g j).2 := by
  intro j hj e
  have h1 : List.range n = List.range (j + 1) ++ (List.range (n - (j + 1))).map (j + 1 + ·) := by
    rw [← List.range_add, show j + 1 + (n - (j + 1)) = n by omega]
  rw [h1, List.map_append, List.foldl_append, List.range_succ, List.map_append, List.foldl_append]
  rw [fold_out (l := List.map g (List.map (j + 1 + ·) (List.range (n - (j + 1))))) fun x hx => ?_]
  · show fR i _ (g j) = _
    exact if_pos e
  · obtain ⟨y, hy, rfl⟩ := List.mem_map.mp hx
    obtain ⟨k, hk, rfl⟩ := List.mem_map.mp hy
    have := List.mem_range.mp hk
    intro z
    have := hg j hj e (j + 1 + k) (by omega) z
    omega
theorem fold_zs {n m i : Nat} {f : List Int} : (zs n m).foldl (fR i) f = if n ≤ i ∧ i < m then z32 else f := by
  by_cases h : n ≤ i ∧ i < m
  · rw [if_pos h]
    exact fold_map (g := fun j => (n + j, z32)) (fun j _ e k _ e' => by dsimp only at e e'; omega) (i - n) (by omega) (by show n + (i - n) = i; omega)
  · rw [if_neg h]
    refine fold_out fun e he => ?_
    obtain ⟨j, hj, rfl⟩ := List.mem_map.mp he
    have := List.mem_range.mp hj
    show n + j ≠ i
    omega
theorem fold_plc {u i : Nat} {bs : List (List Int)} {f : List Int} : (plc u bs).foldl (fR i) f = if u ≤ i ∧ i < u + bs.length then bs.getD (i - u) [] else f := by
  by_cases h : u ≤ i ∧ i < u + bs.length
  · rw [if_pos h]
    exact fold_map (g := fun j => (u + j, bs.getD j [])) (fun j _ e k _ e' => by dsimp only at e e'; omega) (i - u) (by omega) (by show u + (i - u) = i; omega)
  · rw [if_neg h]
    refine fold_out fun e he => ?_
    obtain ⟨j, hj, rfl⟩ := List.mem_map.mp he
    have := List.mem_range.mp hj
    show u + j ≠ i
    omega
theorem fl_rd {i : Nat} : ∀ (l : List (Nat × List Int)) (st : List (List Int)), i < st.length → (l.foldl K5.flF st).getD i [] = l.foldl (fR i) (st.getD i [])
  | [], st, _ => rfl
  | e :: r, st, h => by
    rw [List.foldl_cons, List.foldl_cons, fl_rd r _ (by unfold K5.flF; rw [List.length_set]; exact h)]
    congr 1
    unfold K5.flF fR
    by_cases z : e.1 = i
    · rw [if_pos z, z, List.getD_eq_getElem?_getD, List.getElem?_set_self h]
      rfl
    · rw [if_neg z, List.getD_eq_getElem?_getD, List.getElem?_set_ne z, ← List.getD_eq_getElem?_getD]
theorem rd_fl {s : DS} {i : Nat} (h : i < s.st.length) : rdM (flM s) i = rdM s i := by
  show (s.wa.foldl K5.flF s.st).getD i [] = s.wa.foldl (fR i) (s.st.getD i [])
  exact fl_rd _ _ h
/-! ### pieces -/
theorem flat_pieces (L : List Nat) : ∀ n, (List.range n).flatMap (K4.piece L) = L.take (24 * n)
  | 0 => by rw [Nat.mul_zero, List.take_zero]; rfl
  | n + 1 => by
    rw [List.range_succ, List.flatMap_append, flat_pieces L n, show 24 * (n + 1) = 24 * n + 24 by omega, List.take_add]
    show _ ++ (K4.piece L n ++ []) = _
    rw [List.append_nil]
    rfl
theorem all_pieces (L : List Nat) : (List.range (K4.cnt L)).flatMap (K4.piece L) = L := by
  rw [flat_pieces, List.take_of_length_le]
  unfold K4.cnt
  omega
theorem mapM_of {α β : Type} {f : α → Option β} : ∀ {l : List α} {m : List β}, l.map f = m.map some → l.mapM f = some m
  | [], [], _ => rfl
  | [], _ :: _, h => by cases h
  | _ :: _, [], h => by cases h
  | a :: l, b :: m, h => by
    have h1 : f a = some b := (List.cons.inj h).1
    have h2 : l.map f = m.map some := (List.cons.inj h).2
    rw [List.mapM_cons, h1, mapM_of h2]
    rfl
end K7

set_option maxRecDepth 100000
set_option maxHeartbeats 4000000
/-! a disk that holds rows -/
namespace K7
open PySem hiding Tok code
open PySem.Spec PyProof.Rows GD K1
open L2 hiding rest
open K6 (Rec RecAt RecSm wR spWRec recV recA T2 ST recD RecOK)
open K4 (Blks BlkV encR iv decO DecV)
open K5 (DS DA Kz grow rdM stepS tnS cutM flM MO TxD TxP TxO passE z32)
structure RK (x : Rec) : Prop where
  ok : RecOK x
  l : (tL x).length ≤ 720
theorem RK.ch {x : Rec} (h : RK x) : ∀ c ∈ tL x, K4.isCh c = true := fun c hc => by
  have := (K6.readM_some (K6.read_back h.ok)).1
  exact List.all_eq_true.mp this c hc
theorem RK.rw {x : Rec} (h : RK x) : RW x := by
  have hr := K6.read_back h.ok
  refine RW_of (K6.readM_sm (by have := h.l; exact Nat.le_trans this (by decide)) hr) h.l fun c hc => ?_
  have := of_decide_eq_true (h.ch c hc)
  omega
structure RowsOK (rows : List Rec) : Prop where
  k : ∀ x ∈ rows, RK x
  f : ∀ i x, rows[i]? = some x → fitM x (rows.take i) = true
  w : cwM rows 1 0 [] = rows.length
structure Holds (s : DS) (rows : List Rec) : Prop where
  len : (blkL 0 rows).length ≤ s.st.length
  vw : ∀ i < s.st.length, rdM s i = (blkL 0 rows).getD i z32
theorem Holds.h32 {s : DS} {rows : List Rec} (h : Holds s rows) (hk : ∀ x ∈ rows, RK x) (hn : rows.length ≤ 65535) : ∀ i < s.st.length, (rdM s i).length = 32 ∧ ∀ y ∈ rdM s i, 0 ≤ y ∧ y ≤ 255 := fun i hi => by
  rw [h.vw i hi]
  by_cases z : i < (blkL 0 rows).length
  · have e : (blkL 0 rows)[i]? = some ((blkL 0 rows)[i]) := List.getElem?_eq_getElem z
    rw [List.getD_eq_getElem?_getD, e]
    obtain ⟨a, b⟩ := blkL_mem 0 (fun x hx => (hk x hx).rw.b) (by omega) (List.mem_of_getElem? e)
    refine ⟨a, fun y hy => ?_⟩
    have := List.all_eq_true.mp b y hy
    unfold K5.okb at this
    rw [Bool.and_eq_true] at this
    exact ⟨of_decide_eq_true this.1, of_decide_eq_true this.2⟩
  · rw [List.getD_eq_getElem?_getD, List.getElem?_eq_none (by omega)]
    show z32.length = 32 ∧ ∀ y ∈ z32, 0 ≤ y ∧ y ≤ 255
    decide
def lenM (rows : List Rec) (i : Nat) : Nat := (blkL 0 (rows.take i)).length
theorem lenM_le {rows : List Rec} {i : Nat} {x : Rec} (h : rows[i]? = some x) : lenM rows (i + 1) = lenM rows i + K4.cnt (tL x) ∧ lenM rows (i + 1) ≤ (blkL 0 rows).length ∧ ∀ k < K4.cnt (tL x), (blkL 0 rows).getD (lenM rows i + k) z32 = K4.enc (k : Nat) (K4.cnt (tL x) : Nat) (i : Nat) (K4.piece (tL x) k) := by
  have e1 : lenM rows (i + 1) = lenM rows i + K4.cnt (tL x) := by
    unfold lenM
    rw [blkL_snoc h, List.length_append, rowB_cnt]
  have hi := (List.getElem?_eq_some_iff.mp h).1
  have sp : blkL 0 rows = blkL 0 (rows.take i) ++ (rowB i x ++ blkL (i + 1) (rows.drop (i + 1))) := by
    have e : rows = rows.take (i + 1) ++ rows.drop (i + 1) := (List.take_append_drop (i + 1) rows).symm
    have h2 : blkL 0 rows = blkL 0 (rows.take (i + 1)) ++ blkL (0 + (rows.take (i + 1)).length) (rows.drop (i + 1)) := by
      rw [← blkL_app, ← e]
    rw [h2, blkL_snoc h, List.append_assoc, List.length_take, Nat.min_eq_left (by omega), Nat.zero_add, Nat.zero_add]
  refine ⟨e1, ?_, fun k hk => ?_⟩
  · rw [e1, sp, List.length_append, List.length_append, rowB_cnt]
    show lenM rows i + _ ≤ lenM rows i + _
    omega
  · rw [sp, List.getD_eq_getElem?_getD, List.getElem?_append_right (by show lenM rows i ≤ _; omega)]
    show ((rowB i x ++ _)[lenM rows i + k - lenM rows i]?).getD z32 = _
    rw [Nat.add_sub_cancel_left, List.getElem?_append_left (by rw [rowB_cnt]; exact hk)]
    unfold rowB encR
    rw [List.getElem?_map, List.getElem?_range hk]
    rfl
theorem tx_at {s : DS} {rows : List Rec} (h : Holds s rows) (hk : ∀ x ∈ rows, RK x) {i : Nat} {x : Rec} (hx : rows[i]? = some x) : txM s (lenM rows i) i = some (tL x) := by
  have rk := hk x (List.mem_of_getElem? hx)
  obtain ⟨e1, e2, e3⟩ := lenM_le hx
  have cp : 1 ≤ K4.cnt (tL x) := by rw [← rowB_cnt 0]; exact cnt_pos x
  have c30 : K4.cnt (tL x) ≤ 30 := by
    have := rk.l
    unfold K4.cnt; omega
  have hl := h.len
  have rd : ∀ k < K4.cnt (tL x), rdM s (lenM rows i + k) = K4.enc (k : Nat) (K4.cnt (tL x) : Nat) (i : Nat) (K4.piece (tL x) k) := fun k hk => by
    rw [h.vw _ (by omega), e3 k hk]
  have dec : ∀ k < K4.cnt (tL x), decO (rdM s (lenM rows i + k)) = some (((k : Nat) : Int), ((K4.cnt (tL x) : Nat) : Int), ((i : Nat) : Int), K4.piece (tL x) k) := fun k hk => by
    rw [rd k hk]
    exact K4.dec_enc (by omega) (by omega) (K4.piece_pos hk) (K4.piece_len _ _) fun c hc => rk.ch c (K4.piece_mem hc)
  have d0 := dec 0 (by omega)
  rw [Nat.add_zero] at d0
  unfold txM
  rw [if_neg (by omega), d0]
  dsimp only
  rw [if_neg (by
    by_cases z : ((s.st.length : Nat) : Int) - ((lenM rows i : Nat) : Int) < 30
    · rw [if_pos z]; omega
    · rw [if_neg z]; omega)]
  have bk : bksM s (lenM rows i) ((K4.cnt (tL x) : Nat) : Int) = rowB i x := by
    unfold bksM rowB encR
    rw [Int.toNat_natCast]
    refine List.map_congr_left fun k hk => ?_
    exact rd k (List.mem_range.mp hk)
  have mm : (bksM s (lenM rows i) ((K4.cnt (tL x) : Nat) : Int)).mapM decO = some ((List.range (K4.cnt (tL x))).map fun k => (((k : Nat) : Int), ((K4.cnt (tL x) : Nat) : Int), ((i : Nat) : Int), K4.piece (tL x) k)) := by
    refine mapM_of ?_
    unfold bksM
    rw [Int.toNat_natCast, List.map_map, List.map_map]
    refine List.map_congr_left fun k hk => ?_
    exact dec k (List.mem_range.mp hk)
  rw [mm]
  dsimp only
  have fl : ((List.range (K4.cnt (tL x))).map fun k => (((k : Nat) : Int), ((K4.cnt (tL x) : Nat) : Int), ((i : Nat) : Int), K4.piece (tL x) k)).flatMap (fun q => q.2.2.2) = tL x := by
    rw [List.flatMap_map]
    exact all_pieces (tL x)
  rw [fl, bk]
  exact if_pos (K4.blkD_eq _)
theorem rc_at {s : DS} {rows : List Rec} (h : Holds s rows) (ok : RowsOK rows) {i : Nat} {x : Rec} (hx : rows[i]? = some x) : rcM s (lenM rows i) (rows.take i) = some x := by
  have hi := (List.getElem?_eq_some_iff.mp hx).1
  have rk := ok.k x (List.mem_of_getElem? hx)
  unfold rcM
  rw [List.length_take, Nat.min_eq_left (by omega), tx_at h ok.k hx]
  dsimp only
  have : K6.readM (tL x) = some x := K6.read_back rk.ok
  rw [this]
  dsimp only
  rw [if_pos (ok.f i x hx)]
theorem rc_end {s : DS} {rows : List Rec} (h : Holds s rows) : rcM s (blkL 0 rows).length rows = none := by
  have : txM s (blkL 0 rows).length rows.length = none := by
    unfold txM
    by_cases ea : (blkL 0 rows).length = s.st.length
    · rw [if_pos ea]
    · rw [if_neg ea, h.vw _ (by have := h.len; omega), List.getD_eq_getElem?_getD, List.getElem?_eq_none (Nat.le_refl _)]
      rfl
  unfold rcM
  rw [this]
theorem rl_all {s : DS} {rows : List Rec} (h : Holds s rows) (ok : RowsOK rows) : ∀ (k i : Nat) (es : List Nat), i ≤ rows.length → rows.length - i < k → es.length = i → (0 < i → es[i - 1]? = some (lenM rows i)) →
    (rlM s k (lenM rows i) (rows.take i) es).1 = rows ∧ (0 < rows.length → (rlM s k (lenM rows i) (rows.take i) es).2[rows.length - 1]? = some (blkL 0 rows).length)
  | 0, i, es, _, h1, _, _ => by omega
  | k + 1, i, es, hi, h1, hl, he => by
    rw [rlM]
    by_cases z : i = rows.length
    · subst z
      have e : lenM rows rows.length = (blkL 0 rows).length := by unfold lenM; rw [List.take_length]
      rw [e, List.take_length, rc_end h]
      exact ⟨rfl, fun hp => by rw [← e]; exact he hp⟩
    · have hx : rows[i]? = some rows[i] := List.getElem?_eq_getElem (by omega)
      rw [rc_at h ok hx]
      dsimp only
      have tk : rows.take i ++ [rows[i]] = rows.take (i + 1) := by rw [List.take_add_one, hx]; rfl
      have el : lenM rows i + (rowB 0 rows[i]).length = lenM rows (i + 1) := by rw [rowB_cnt, (lenM_le hx).1]
      rw [tk, el]
      refine rl_all h ok k (i + 1) _ (by omega) (by omega) (by rw [List.length_append, hl]; rfl) fun _ => ?_
      rw [Nat.add_sub_cancel, List.getElem?_append_right (by omega), hl, Nat.sub_self]
      rfl
/-- opening a disk that holds rows -/
theorem all_holds {s : DS} {rows : List Rec} (h : Holds s rows) (ok : RowsOK rows) (hp : 0 < rows.length) (hl : rows.length ≤ (blkL 0 rows).length) : (allM s).1 = rows ∧ whM s = rows.length ∧ usM s = (blkL 0 rows).length := by
  have := rl_all h ok (s.st.length + 1) 0 [] (Nat.zero_le _) (by have := h.len; omega) rfl (fun z => by cases z)
  have e0 : lenM rows 0 = 0 := rfl
  rw [e0, List.take_zero] at this
  obtain ⟨a, b⟩ := this
  have a : (allM s).1 = rows := a
  have w : whM s = rows.length := by unfold whM; rw [a, ok.w]
  refine ⟨a, w, ?_⟩
  unfold usM
  rw [w, List.getD_eq_getElem?_getD]
  have b := b hp
  show ((allM s).2[rows.length - 1]?).getD 0 = _
  unfold allM
  rw [b]
  rfl
theorem blkL_ge : ∀ (n : Nat) (rows : List Rec), rows.length ≤ (blkL n rows).length
  | n, [] => Nat.zero_le _
  | n, x :: r => by
    have h1 := blkL_ge (n + 1) r
    have h2 := cnt_pos x
    rw [rowB_cnt] at h2
    rw [blkL, List.length_append, List.length_cons, rowB_cnt]
    omega
/-- clearing the rest -/
theorem clear_holds {s : DS} {rows : List Rec} (h : Holds s rows) (hs : s.sc = none) : ∃ s', clM s (blkL 0 rows).length = .inr s' ∧ Holds s' rows ∧ s'.sc = none ∧ s'.wa = [] ∧ s'.cuts = s.cuts ∧ s'.st.length = s.st.length := by
  refine ⟨flM ⟨s.st, s.wa ++ zs (blkL 0 rows).length s.st.length, s.cuts, none⟩, ?_, ?_, rfl, rfl, rfl, K5.fl_len _ _⟩
  · unfold clM
    rw [wrM_none _ _ hs]
    exact fluM_none rfl
  · have fl : (flM ⟨s.st, s.wa ++ zs (blkL 0 rows).length s.st.length, s.cuts, none⟩).st.length = s.st.length := K5.fl_len _ _
    refine ⟨by rw [fl]; exact h.len, fun i hi => ?_⟩
    rw [fl] at hi
    rw [rd_fl (s := ⟨s.st, s.wa ++ zs (blkL 0 rows).length s.st.length, s.cuts, none⟩) hi, rd_app, fold_zs]
    have hv : rdM ⟨s.st, s.wa, s.cuts, none⟩ i = rdM s i := rfl
    rw [hv, h.vw i hi]
    by_cases z : (blkL 0 rows).length ≤ i
    · rw [if_pos ⟨z, hi⟩, List.getD_eq_getElem?_getD, List.getElem?_eq_none z]
      rfl
    · rw [if_neg (fun y => z y.1)]
/-- appending rows -/
theorem app_holds {s : DS} {rows xs : List Rec} (h : Holds s rows) (hs : s.sc = none) (hl : (blkL 0 rows).length + (blkL rows.length xs).length ≤ s.st.length) :
    ∃ s', wrM s (plc (blkL 0 rows).length (blkL rows.length xs)) = .inr s' ∧ Holds s' (rows ++ xs) ∧ s'.sc = none ∧ s'.wa.length = s.wa.length + (blkL rows.length xs).length ∧ s'.cuts = s.cuts ∧ s'.st.length = s.st.length := by
  have eb : blkL 0 (rows ++ xs) = blkL 0 rows ++ blkL rows.length xs := by rw [blkL_app, Nat.zero_add]
  refine ⟨_, wrM_none _ _ hs, ⟨by rw [eb, List.length_append]; exact hl, fun i hi => ?_⟩, rfl, by rw [List.length_append, plc_len], rfl, rfl⟩
  have hi : i < s.st.length := hi
  rw [rd_app, fold_plc, eb]
  have hv : rdM ⟨s.st, s.wa, s.cuts, none⟩ i = rdM s i := rfl
  rw [hv, h.vw i hi, List.getD_eq_getElem?_getD, List.getD_eq_getElem?_getD, List.getD_eq_getElem?_getD]
  by_cases z : i < (blkL 0 rows).length
  · rw [if_neg (fun y => by omega), List.getElem?_append_left z]
  · rw [List.getElem?_append_right (by omega)]
    by_cases y : i < (blkL 0 rows).length + (blkL rows.length xs).length
    · rw [if_pos ⟨by omega, y⟩, List.getElem?_eq_getElem (by omega)]
      rfl
    · rw [if_neg (fun t => y t.2), List.getElem?_eq_none (by omega), List.getElem?_eq_none (by omega)]
theorem flush_holds {s : DS} {rows : List Rec} (h : Holds s rows) (hs : s.sc = none) : ∃ s', fluM s = .inr s' ∧ Holds s' rows ∧ s'.sc = none ∧ s'.wa = [] ∧ s'.cuts = s.cuts ∧ s'.st.length = s.st.length := by
  have fl : (flM s).st.length = s.st.length := K5.fl_len _ _
  refine ⟨flM s, fluM_none hs, ⟨by rw [fl]; exact h.len, fun i hi => ?_⟩, hs, rfl, rfl, fl⟩
  rw [fl] at hi
  rw [rd_fl hi, h.vw i hi]
/-- formatting a new disk -/
theorem format_holds {s : DS} {xs : List Str} (hs : s.sc = none) (hw : s.wa = []) (hl : (blkL 0 [.ent xs]).length ≤ s.st.length) : ∃ s', fmM s (.ent xs) = .inr s' ∧ Holds s' [.ent xs] ∧ s'.sc = none ∧ s'.wa = [] ∧ s'.cuts = s.cuts ∧ s'.st.length = s.st.length := by
  refine ⟨flM ⟨s.st, plc 0 (blkL 0 [.ent xs]) ++ zs (blkL 0 [.ent xs]).length s.st.length, s.cuts, none⟩, ?_, ?_, rfl, rfl, rfl, K5.fl_len _ _⟩
  · unfold fmM
    rw [wrM_none _ _ hs, hw]
    show clM ⟨s.st, [] ++ _, s.cuts, none⟩ _ = _
    unfold clM
    rw [wrM_none _ _ rfl]
    exact fluM_none rfl
  · have fl : (flM ⟨s.st, plc 0 (blkL 0 [.ent xs]) ++ zs (blkL 0 [.ent xs]).length s.st.length, s.cuts, none⟩).st.length = s.st.length := K5.fl_len _ _
    refine ⟨by rw [fl]; exact hl, fun i hi => ?_⟩
    rw [fl] at hi
    rw [rd_fl (s := ⟨s.st, plc 0 (blkL 0 [.ent xs]) ++ zs (blkL 0 [.ent xs]).length s.st.length, s.cuts, none⟩) hi, rd_app, fold_zs]
    have e1 : rdM ⟨s.st, plc 0 (blkL 0 [.ent xs]), s.cuts, none⟩ i = (plc 0 (blkL 0 [.ent xs])).foldl (fR i) (s.st.getD i []) := rfl
    by_cases z : (blkL 0 [.ent xs]).length ≤ i
    · rw [if_pos ⟨z, hi⟩, List.getD_eq_getElem?_getD, List.getElem?_eq_none z]
      rfl
    · rw [if_neg (fun y => z y.1), e1, fold_plc, if_pos ⟨Nat.zero_le _, by omega⟩, Nat.sub_zero, List.getD_eq_getElem?_getD, List.getD_eq_getElem?_getD, List.getElem?_eq_getElem (by omega)]
      rfl
end K7

set_option maxRecDepth 100000
set_option maxHeartbeats 4000000
/-! what the law draws -/
namespace K6
open PySem hiding Tok code
open PySem.Spec PyProof.Rows GD K1
open L2 hiding rest
abbrev sSomeV : Stmt := topS 81
theorem op_rep_str {X : Cx} : OpR X (binaryOp .Mult) (fun x y H Q => ∃ (z : Str) (n : Int), x = .str z ∧ y = .int n ∧ (decide (n < -(2 ^ 63 : Int)) || decide (n ≥ 2 ^ 63)) = false ∧
    ¬ ((z.length : Int) > (2 ^ 63 - 1) / n) ∧ Builtin.Str.tooLong (z.length * n.toNat) = false ∧ (n == 1 || z.length == 0) = false ∧ ¬ n < 1 ∧
    (⟨(List.replicate n.toNat z.cps).foldl (· ++ ·) #[]⟩ : Str).length ≤ sizeLine ∧ Q (.str ⟨(List.replicate n.toNat z.cps).foldl (· ++ ·) #[]⟩) H) := by
  intro pins s σ H x y v u Q I rx ry h
  obtain ⟨z, n, rfl, rfl, h1, h2, h3, h4, h5, h6, q⟩ := h
  obtain ⟨t, rfl⟩ := rx
  obtain ⟨t', rfl⟩ := ry
  refine PySem.P.mul_str h1 (fun _ _ => h2) (fun _ _ => h3) ?_
  rw [if_neg h5, if_neg (by rw [h4]; exact Bool.false_ne_true)]
  exact ⟨h6, ⟨.str _, H, I.tok _, ⟨_, rfl⟩, q⟩⟩

section
variable {P : Program} {w : World} {K : PySem.W.Frag} {mg : Str → Option Value} {base : Heap} {PN PV : Addr}
def spSomeV : L2.Sp := fun vs H Q _ => ∃ (b d : Addr) (ds : List Int) (n : Nat), vs = [.ref b] ∧ Box H b d ds n ∧
  ∀ H' n' a, Bs b d ds H H' n' → aB a = true → Q (aV a) H'
theorem scSomeV : FnScope ["box"] ["box"] (defScope sSomeV) := ⟨rfl, rfl, rfl, by decide +kernel, rfl, by decide +kernel, by decide +kernel⟩
theorem ok_someV {f f1 : Addr} {fd fd1 : FuncData} (F : Fun K "_law_some_value" "_law_some_value" sSomeV f fd) (T : Txt K mg)
    (FD : FO P w K mg base CX0 1 "_law_draw" ["box", "many"] spDraw f1 fd1) : FnOk P w K mg base CX0 2 f fd ["box"] spSomeV := by
  have sc := scSomeV
  have T3 := T
  refine F.ok sc (fun vs H Q E h => ?_) (fun cdv A outer s H vs Q E hr h => ?_)
  · obtain ⟨b, d, ds, n, rfl, _⟩ := h
    rfl
  · obtain ⟨b, d, ds, n, rfl, hB, q⟩ := h
    refine ⟨_, (pss_one (ps_ret (pe_ix ix_list (pe_lst (pa_cons pe_int (pa_cons (pe_un un_neg pe_int) (pa_cons pe_int (pa_cons (pe_un un_neg pe_int) (pa_cons pe_str (pa_cons pe_str (pa_cons pe_str (pa_cons (pe_op op_rep_str pe_str pe_int) (pa_cons (pe_call FD.ok (hr.mono (by decide)) (by rfl) FD.m FD.kp FD.b .nil pass0 (pa_cons (pv 0) (pa_cons pe_int pa_nil))) pa_nil)))))))))) (pe_call FD.ok (hr.mono (by decide)) (by rfl) FD.m FD.kp FD.b .nil pass0 (pa_cons (pv 0) (pa_cons pe_int pa_nil))) (fun _ _ => rfl)))), ?_⟩
    refine ⟨_, rfl, _, rfl, _, 20, rfl, rfl, by decide, by show ¬ ((1 : Int) > _); decide, by show Builtin.Str.tooLong (1 * 20) = false; decide, rfl, by decide, by decide +kernel, ?_⟩
    refine ⟨_, rfl, b, d, ds, n, 999, rfl, hB, by decide, fun r h0 h1 => ⟨(show 9 ≤ sizeLine by decide), fun l nl => ?_⟩⟩
    have b1 := (Bs.refl hB).draw
    have b2 := b1.new (o := .lst [.int 0, .int (-5), .int 99999, .int (-99999), .str "", .str "s", .str "x y", .str ⟨(List.replicate (20 : Int).toNat (Str.ofString "x").cps).foldl (· ++ ·) #[]⟩, .int r]) nl
    refine ⟨_, rfl, b, d, ds, n + 1, 9, rfl, b2.box, by decide, fun r2 h2 h3 => ?_⟩
    have b3 := b2.draw
    have nlb : l ≠ b := b1.nb nl
    obtain ⟨j, rfl, hj⟩ := idx (m := 9) h2 h3
    have el := (upd_ne (o := .lst [.ref d, .int ((n + 1 + 1 : Nat) : Int)]) nlb).trans (upd_same (H := upd H b (.lst [.ref d, .int ((n + 1 : Nat) : Int)])) (a := l) (o := .lst [.int 0, .int (-5), .int 99999, .int (-99999), .str "", .str "s", .str "x y", .str ⟨(List.replicate (20 : Int).toNat (Str.ofString "x").cps).foldl (· ++ ·) #[]⟩, .int r]))
    have hj : j = 0 ∨ j = 1 ∨ j = 2 ∨ j = 3 ∨ j = 4 ∨ j = 5 ∨ j = 6 ∨ j = 7 ∨ j = 8 := by omega
    rcases hj with rfl | rfl | rfl | rfl | rfl | rfl | rfl | rfl | rfl
    · exact ⟨l, _, _, _, rfl, rfl, SqL.of el, atI_nat (j := 0) rfl, q _ _ (.i 0) b3 rfl⟩
    · exact ⟨l, _, _, _, rfl, rfl, SqL.of el, atI_nat (j := 1) rfl, q _ _ (.i (-5)) b3 rfl⟩
    · exact ⟨l, _, _, _, rfl, rfl, SqL.of el, atI_nat (j := 2) rfl, q _ _ (.i 99999) b3 rfl⟩
    · exact ⟨l, _, _, _, rfl, rfl, SqL.of el, atI_nat (j := 3) rfl, q _ _ (.i (-99999)) b3 rfl⟩
    · exact ⟨l, _, _, _, rfl, rfl, SqL.of el, atI_nat (j := 4) rfl, q _ _ (.s "") b3 rfl⟩
    · exact ⟨l, _, _, _, rfl, rfl, SqL.of el, atI_nat (j := 5) rfl, q _ _ (.s "s") b3 rfl⟩
    · exact ⟨l, _, _, _, rfl, rfl, SqL.of el, atI_nat (j := 6) rfl, q _ _ (.s "x y") b3 rfl⟩
    · exact ⟨l, _, _, _, rfl, rfl, SqL.of el, atI_nat (j := 7) rfl, q _ _ (.s _) b3 (by decide +kernel)⟩
    · exact ⟨l, _, _, _, rfl, rfl, SqL.of el, atI_nat (j := 8) rfl, q _ _ (.i r) b3 (decide_eq_true ⟨by omega, by omega⟩)⟩
end
end K6

set_option maxRecDepth 100000
set_option maxHeartbeats 4000000
/-! the law's helpers -/
namespace L2
open PySem hiding Tok code
open PySem.Spec PyProof.Rows
section
variable {X : Cx} {es : List Expr} {t : TA} {i : Expr} {tb : TE} {x y z : Str} {j0 j k : Nat} {p0 lp sp c0 c1 apos pos : Pos}
/-- ['..', ..][i].replace(..): behind the first text the count of tokens isn't 0 -/
theorem pe_replSub (hr : PA X es t) (hb : PE X i tb) (hs : PlainIx i) (hyz : (y == z) = false := by decide)
    (hs0 : starEach (.Constant (.str x) j0 p0 :: es) X.env = (false, eval (.Constant (.str x) j0 p0) X.env) :: starEach es X.env := by rfl)
    (hst : starEach [.Constant (.str y) j c0, .Constant (.str z) k c1] X.env = [(false, eval (.Constant (.str y) j c0) X.env), (false, eval (.Constant (.str z) k c1) X.env)] := by rfl)
    (hbase : attributeBase (.Subscript (.List (.Constant (.str x) j0 p0 :: es) lp) i sp) "replace" X.env (eval (.Subscript (.List (.Constant (.str x) j0 p0 :: es) lp) i sp) X.env) = eval (.Subscript (.List (.Constant (.str x) j0 p0 :: es) lp) i sp) X.env := by rfl) (hline : (apos.endLine == pos.line) = true := by rfl) :
    PE X (.Call (.Attribute (.Subscript (.List (.Constant (.str x) j0 p0 :: es) lp) i sp) "replace" apos) [.Constant (.str y) j c0, .Constant (.str z) k c1] [] pos) (CwR.tReplC (tOp (rIxL X.K) (tLst (tCons (tC (.str x)) t)) tb) y z) := by
  refine ⟨fun pins s σ H Q I h => ?_⟩
  refine PySem.Call_method2 hbase hst hline (Subscript_ (wpAny_List_spliced ?_))
  rw [hs0]
  show wpAny _ _ (spliced ((false, eval (.Constant (.str x) j0 p0) X.env) :: backTo lp (starEach es X.env))) _ _ s
  refine Calls.spliced_cons (Calls.Constant_str ?_)
  refine wpAny_mono (PySem.wpAny_toks_of (n := 1) (by show 1 ≤ s.toks + 1; omega) (hr.run lp pins _ σ H _ (I.tok _) h)) (fun us s1 q => ?_) fun _ _ z => z.2
  obtain ⟨hk, xs, H1, I1, r1, z1, q1⟩ := q
  refine ⟨by rw [List.length_cons, ← r1.length]; exact z1, ?_⟩
  have hf : H1 s1.heap.objs.size = none := I1.hok.fresh (Nat.le_refl _)
  have I2 : Inv X pins σ (upd H1 s1.heap.objs.size (.lst (.str x :: xs))) { s1 with heap := s1.heap.push { cls := .type "list", data := .seq (.str x s.toks :: us).toArray 0 } } :=
    I1.laid (t' := s1.toks) (fun b u e => Heap.get?_push_of_some _ e) (Nat.le_refl _) ⟨z1, _, 0, .cons (show RelV (V.str x) _ from ⟨_, rfl⟩) r1, Heap.get?_push_size _ rfl⟩
  refine wpAny_mono (PySem.wpAny_toks_of (n := 1) hk (hb.run pins _ σ _ _ I2 (q1 _ hf))) (fun u s2 q => ?_) fun _ _ z => z.2
  obtain ⟨hk2, y2, H2, I3, r2, q2⟩ := q
  refine wpAny_mono (PySem.wpAny_toks_of (n := 1) hk2 (ix_list _ i pins s2 σ H2 (.ref s1.heap.objs.size) y2 _ u _ I3 rfl r2 q2 (hs _ _))) (fun v s3 q => ?_) fun _ _ z => z.2
  obtain ⟨hk3, v', H3, I4, r3, x3, e1, hbd, q3⟩ := q
  subst e1
  obtain ⟨tx, e2⟩ := r3
  subst e2
  refine ⟨"str", _, PySem.F.plainAttrs_str, PySem.F.slot_str_replace, PySem.F.type_str_replace, typeIs_str _ _ _, (fun _ e => nomatch e), Calls.callWith_builtin rfl (Calls.evalArgs_plain (Calls.spliced_cons ?_))⟩
  refine Calls.Constant_str (Calls.spliced_cons (Calls.Constant_str (Calls.spliced_nil ?_)))
  exact PySem.SC.replace (by show s3.toks ≠ 0; omega) (by show s3.toks + 1 ≠ 0; omega) (by show s3.toks ≠ s3.toks + 1; omega) hyz hbd fun t' k => ⟨.str (Txt.replace x3 y z), H3, I4.tok k, ⟨t', rfl⟩, q3⟩
end
end L2

set_option maxRecDepth 100000
set_option maxHeartbeats 4000000
/-! the law's helpers: blocks that are used, texts, entries -/
namespace K7
open PySem hiding Tok code
open PySem.Spec PyProof.Rows GD K1
open L2 hiding rest
open K6 (Rec RecAt RecSm wR spWRec recV recA T2 ST recD RecOK)
open K4 (Blks BlkV encR iv decO DecV)
open K5 (DS DA Kz grow rdM stepS tnS cutM flM MO TxD TxP TxO passE z32 rLenK call_lenK)
abbrev sSmall : Stmt := topS 82
abbrev sEnt : Stmt := topS 84
abbrev sUsed : Stmt := topS 9999
structure TxS (mg : Str → Option Value) : Prop where
  sum : mg "sum" = none
def s40 : Str := ⟨(List.replicate (40 : Int).toNat (Str.ofString "x").cps).foldl (· ++ ·) #[]⟩
def menu9 : List Str := ["", "do 1", "let x = 1", "keep k = 2|fn f(p) = set k = p", "hold \"s\"", " ", "nothing of a line", s40, "import x from b"]
theorem menu9_ok : ∀ z ∈ menu9, z.length ≤ 40 ∧ (Txt.replace z "|" "\n").length ≤ 40 ∧ ∀ c ∈ (Txt.replace z "|" "\n").cps.toList, c = 10 ∨ (K1.isCh c = true ∧ c ≠ 124) := by decide +kernel
def ents3 : List (List Str) := [[Str.ofString "a"], [Str.ofString "a", Str.ofString "b"], [Str.ofString "b", Str.ofString "a", Str.ofString "c"]]
section
variable {P : Program} {w : World} {K : PySem.W.Frag} {mg : Str → Option Value} {base : Heap} {C CL NO LF PC D PN PV NK : Addr}
def spSmall : L2.Sp := fun vs H Q _ => ∃ (b d : Addr) (ds : List Int) (n : Nat), vs = [.ref b] ∧ Box H b d ds n ∧ ∀ H' n' z, Bs b d ds H H' n' → z.length ≤ 40 → (∀ c ∈ z.cps.toList, c = 10 ∨ (K1.isCh c = true ∧ c ≠ 124)) → Q (.str z) H'
theorem scSmall : FnScope ["box"] ["box"] (defScope sSmall) := ⟨rfl, rfl, rfl, by decide +kernel, rfl, by decide +kernel, by decide +kernel⟩
theorem ok_small {f f1 : Addr} {fd fd1 : FuncData} (F : Fun K "_law_small_text" "_law_small_text" sSmall f fd) (FD : K6.FO P w K mg base CX0 1 "_law_draw" ["box", "many"] spDraw f1 fd1) : FnOk P w K mg base CX0 2 f fd ["box"] spSmall := by
  have sc := scSmall
  refine F.ok sc (fun vs H Q E h => ?_) (fun cdv A outer s H vs Q E hr h => ?_)
  · obtain ⟨b, d, ds, n, rfl, _⟩ := h
    rfl
  · obtain ⟨b, d, ds, n, rfl, hB, q⟩ := h
    refine ⟨_, (pss_one (ps_ret (pe_replSub (pa_cons pe_str (pa_cons pe_str (pa_cons pe_str (pa_cons pe_str (pa_cons pe_str (pa_cons pe_str (pa_cons (pe_op K6.op_rep_str pe_str pe_int) (pa_cons pe_str pa_nil)))))))) (pe_call FD.ok hr (by rfl) FD.m FD.kp FD.b .nil pass0 (pa_cons (pv 0) (pa_cons pe_int pa_nil))) (fun _ _ => rfl)))), ?_⟩
    refine ⟨_, 40, rfl, rfl, by decide, by show ¬ ((1 : Int) > _); decide, by show Builtin.Str.tooLong (1 * 40) = false; decide, rfl, by decide, by decide +kernel, ?_⟩
    refine ⟨(show 9 ≤ sizeLine by decide), fun l nl => ?_⟩
    have b2 := (Bs.refl hB).new (o := .lst (menu9.map V.str)) nl
    have nlb : l ≠ b := (Bs.refl hB).nb nl
    refine ⟨_, rfl, b, d, ds, n, 9, rfl, b2.box, by decide, fun r h0 h1 => ?_⟩
    have b3 := b2.draw
    obtain ⟨j, rfl, hj⟩ := idx (m := 9) h0 h1
    have el : upd (upd H l (.lst (menu9.map V.str))) b (.lst [.ref d, .int ((n + 1 : Nat) : Int)]) l = some (.lst (menu9.map V.str)) := (upd_ne nlb).trans upd_same
    obtain ⟨z, hz⟩ : ∃ z, menu9[j]? = some z := ⟨_, List.getElem?_eq_getElem (show j < 9 from hj)⟩
    obtain ⟨k1, k2, k3⟩ := menu9_ok z (List.mem_of_getElem? hz)
    refine ⟨l, _, _, .str z, rfl, rfl, SqL.of el, atI_nat (by rw [List.getElem?_map, hz]; rfl), z, rfl, ?_, q _ _ _ b3 k2 k3⟩
    have : ("\n" : Str).length = 1 := rfl
    rw [this]
    omega
def spEnt : L2.Sp := fun vs H Q _ => ∃ (b d : Addr) (ds : List Int) (n : Nat), vs = [.ref b] ∧ Box H b d ds n ∧ ∀ H' n' e xs, Bs b d ds H H' n' → H' e = some (.tup (xs.map V.str)) → xs ∈ ents3 → Q (.ref e) H'
theorem scEnt : FnScope ["box"] ["box"] (defScope sEnt) := ⟨rfl, rfl, rfl, by decide +kernel, rfl, by decide +kernel, by decide +kernel⟩
theorem ok_ent {f f1 : Addr} {fd fd1 : FuncData} (F : Fun K "_law_entries" "_law_entries" sEnt f fd) (FD : K6.FO P w K mg base CX0 1 "_law_draw" ["box", "many"] spDraw f1 fd1) : FnOk P w K mg base CX0 2 f fd ["box"] spEnt := by
  have sc := scEnt
  refine F.ok sc (fun vs H Q E h => ?_) (fun cdv A outer s H vs Q E hr h => ?_)
  · obtain ⟨b, d, ds, n, rfl, _⟩ := h
    rfl
  · obtain ⟨b, d, ds, n, rfl, hB, q⟩ := h
    refine ⟨_, (pss_one (ps_ret (pe_ix ix_list (pe_lst (pa_cons (pe_tup (pa_cons pe_str pa_nil)) (pa_cons (pe_tup (pa_cons pe_str (pa_cons pe_str pa_nil))) (pa_cons (pe_tup (pa_cons pe_str (pa_cons pe_str (pa_cons pe_str pa_nil)))) pa_nil)))) (pe_call FD.ok hr (by rfl) FD.m FD.kp FD.b .nil pass0 (pa_cons (pv 0) (pa_cons pe_int pa_nil))) (fun _ _ => rfl)))), ?_⟩
    refine ⟨(by show 1 ≤ sizeLine; decide), fun t1 n1 => ?_⟩
    have b1 := (Bs.refl hB).new (o := .tup [.str "a"]) n1
    have e1 : upd H t1 (.tup [.str "a"]) t1 = some (.tup [.str "a"]) := upd_same
    generalize upd H t1 (.tup [.str "a"]) = H1 at *
    refine ⟨(by show 2 ≤ sizeLine; decide), fun t2 n2 => ?_⟩
    have b2 := b1.new (o := .tup [.str "a", .str "b"]) n2
    have e2 : upd H1 t2 (.tup [.str "a", .str "b"]) t2 = some (.tup [.str "a", .str "b"]) := upd_same
    have e1 : upd H1 t2 (.tup [.str "a", .str "b"]) t1 = some (.tup [.str "a"]) := by rw [upd_ne (ne_of_none e1 n2)]; exact e1
    generalize upd H1 t2 (.tup [.str "a", .str "b"]) = H2 at *
    refine ⟨(by show 3 ≤ sizeLine; decide), fun t3 n3 => ?_⟩
    have b3 := b2.new (o := .tup [.str "b", .str "a", .str "c"]) n3
    have e3 : upd H2 t3 (.tup [.str "b", .str "a", .str "c"]) t3 = some (.tup [.str "b", .str "a", .str "c"]) := upd_same
    have e1 : upd H2 t3 (.tup [.str "b", .str "a", .str "c"]) t1 = some (.tup [.str "a"]) := by rw [upd_ne (ne_of_none e1 n3)]; exact e1
    have e2 : upd H2 t3 (.tup [.str "b", .str "a", .str "c"]) t2 = some (.tup [.str "a", .str "b"]) := by rw [upd_ne (ne_of_none e2 n3)]; exact e2
    generalize upd H2 t3 (.tup [.str "b", .str "a", .str "c"]) = H3 at *
    refine ⟨(by show 3 ≤ sizeLine; decide), fun l nl => ?_⟩
    have b4 := b3.new (o := .lst [.ref t1, .ref t2, .ref t3]) nl
    have el : upd H3 l (.lst [.ref t1, .ref t2, .ref t3]) l = some (.lst [.ref t1, .ref t2, .ref t3]) := upd_same
    have e1 : upd H3 l (.lst [.ref t1, .ref t2, .ref t3]) t1 = some (.tup [.str "a"]) := by rw [upd_ne (ne_of_none e1 nl)]; exact e1
    have e2 : upd H3 l (.lst [.ref t1, .ref t2, .ref t3]) t2 = some (.tup [.str "a", .str "b"]) := by rw [upd_ne (ne_of_none e2 nl)]; exact e2
    have e3 : upd H3 l (.lst [.ref t1, .ref t2, .ref t3]) t3 = some (.tup [.str "b", .str "a", .str "c"]) := by rw [upd_ne (ne_of_none e3 nl)]; exact e3
    have nlb := b3.nb nl
    generalize upd H3 l (.lst [.ref t1, .ref t2, .ref t3]) = H4 at *
    refine ⟨_, rfl, b, d, ds, n, 3, rfl, b4.box, by decide, fun r h0 h1 => ?_⟩
    obtain ⟨j, rfl, hj⟩ := idx (m := 3) h0 h1
    have b5 := b4.draw
    have kt : ∀ q xs, H4 q = some (.tup xs) → upd H4 b (.lst [.ref d, .int ((n + 1 : Nat) : Int)]) q = some (.tup xs) := fun q xs e => by rw [upd_ne (ne_of e b4.box.1 (by intro z; cases z))]; exact e
    have el5 : upd H4 b (.lst [.ref d, .int ((n + 1 : Nat) : Int)]) l = some (.lst [.ref t1, .ref t2, .ref t3]) := by rw [upd_ne nlb]; exact el
    rcases (show j = 0 ∨ j = 1 ∨ j = 2 by omega) with rfl | rfl | rfl
    · exact ⟨l, _, _, _, rfl, rfl, SqL.of el5, atI_nat (j := 0) rfl, q _ _ _ [Str.ofString "a"] b5 (kt _ _ e1) (by simp [ents3])⟩
    · exact ⟨l, _, _, _, rfl, rfl, SqL.of el5, atI_nat (j := 1) rfl, q _ _ _ [Str.ofString "a", Str.ofString "b"] b5 (kt _ _ e2) (by simp [ents3])⟩
    · exact ⟨l, _, _, _, rfl, rfl, SqL.of el5, atI_nat (j := 2) rfl, q _ _ _ [Str.ofString "b", Str.ofString "a", Str.ofString "c"] b5 (kt _ _ e3) (by simp [ents3])⟩
def spUsed : L2.Sp := fun vs H Q _ => ∃ (a : Addr) (ws : List V) (xs : List Rec), vs = [.ref a] ∧ H a = some (.lst ws) ∧ LsR H ws xs ∧ (∀ x ∈ xs, RS x) ∧ xs.length ≤ 200 ∧ ∀ H', Same H H' → Q (.int (((blkL 0 xs).length : Nat) : Int)) H'
end
end K7

set_option maxRecDepth 100000
set_option maxHeartbeats 4000000
/-! rows that go on -/
namespace K7
open PySem hiding Tok code
open PySem.Spec PyProof.Rows GD K1
open L2 hiding rest
open K6 (Rec RecAt RecSm wR spWRec recV recA T2 ST recD RecOK)
theorem cw_app (b : List Rec) : ∀ (a : List Rec) (k w : Nat) (ch : List Str), cwM a k w ch = k - 1 + a.length → (a = [] → ch = [] ∧ w = k - 1) → w < k → cwM (a ++ b) k w ch = cwM b (k + a.length) (k + a.length - 1) []
  | [], k, w, ch, _, h, _ => by
    obtain ⟨rfl, rfl⟩ := h rfl
    rfl
  | x :: r, k, w, ch, hc, _, hw => by
    have el : (x :: r).length = r.length + 1 := rfl
    rw [el] at hc ⊢
    have tx : ∀ m, cwM r (k + 1) w (ch ++ [m]) = k - 1 + (r.length + 1) → cwM (r ++ b) (k + 1) w (ch ++ [m]) = cwM b (k + (r.length + 1)) (k + (r.length + 1) - 1) [] := fun m h => by
      rw [cw_app b r (k + 1) w (ch ++ [m]) (by rw [h]; omega) (fun z => by subst z; have h : w = k - 1 + 1 := h; omega) (by omega)]
      congr 1 <;> omega
    have st : ∀ n, (if ch.length ≠ n ∨ K6.twB ch = true then w else cwM r (k + 1) k []) = k - 1 + (r.length + 1) → (if ch.length ≠ n ∨ K6.twB ch = true then w else cwM (r ++ b) (k + 1) k []) = cwM b (k + (r.length + 1)) (k + (r.length + 1) - 1) [] := fun n h => by
      by_cases z : ch.length ≠ n ∨ K6.twB ch = true
      · rw [if_pos z] at h; omega
      · rw [if_neg z] at h ⊢
        rw [cw_app b r (k + 1) k [] (by rw [h]; omega) (fun _ => ⟨rfl, by omega⟩) (by omega)]
        congr 1 <;> omega
    cases x with
    | txt m t => exact tx m hc
    | rem m => exact tx m hc
    | upd n => exact st n hc
    | ent xs => exact st 0 hc
    | call _ _ _ _ _ => exact st 0 hc
def isTx : Rec → Bool
  | .txt _ _ => true
  | .rem _ => true
  | _ => false
def nmT : Rec → Str
  | .txt m _ => m
  | .rem m => m
  | _ => ""
theorem cw_group {n k w : Nat} : ∀ (ts : List Rec) (k : Nat) (ch : List Str), (∀ x ∈ ts, isTx x = true) → (ch ++ ts.map nmT).length = n → K6.twB (ch ++ ts.map nmT) = false → cwM (ts ++ [.upd n]) k w ch = k + ts.length
  | [], k, ch, _, hn, ht => by
    rw [List.map_nil, List.append_nil] at hn ht
    show (if ch.length ≠ n ∨ K6.twB ch = true then w else cwM [] (k + 1) k []) = k + 0
    rw [if_neg (fun z => z.elim (fun z => z hn) (fun z => by rw [ht] at z; cases z))]
    rfl
  | x :: r, k, ch, hx, hn, ht => by
    have e : ch ++ (x :: r).map nmT = (ch ++ [nmT x]) ++ r.map nmT := by rw [List.map_cons, List.append_cons]
    rw [e] at hn ht
    have := cw_group (n := n) (k := k) (w := w) r (k + 1) (ch ++ [nmT x]) (fun y hy => hx y (List.mem_cons_of_mem _ hy)) hn ht
    have h1 := hx x (List.mem_cons_self ..)
    rw [List.length_cons]
    cases x with
    | txt m t => show cwM (r ++ [.upd n]) (k + 1) w (ch ++ [m]) = _; rw [show ch ++ [m] = ch ++ [nmT (.txt m t)] from rfl, this]; omega
    | rem m => show cwM (r ++ [.upd n]) (k + 1) w (ch ++ [m]) = _; rw [show ch ++ [m] = ch ++ [nmT (.rem m)] from rfl, this]; omega
    | upd _ => cases h1
    | ent _ => cases h1
    | call _ _ _ _ _ => cases h1
theorem fit_ne {x : Rec} {bs : List Rec} (hb : bs ≠ []) (he : isEnt x = false) (hc : ∀ h n m f ad, x = .call h n m f ad → n = (bs.filter (isCall h)).length) : fitM x bs = true := by
  unfold fitM
  have : bs.isEmpty = false := by cases bs with | nil => exact absurd rfl hb | cons _ _ => rfl
  rw [if_neg (by rw [he, this]; exact fun z => z rfl)]
  cases x with
  | call h n m f ad => exact decide_eq_true (hc h n m f ad rfl)
  | _ => rfl
theorem RowsOK.app {rows xs : List Rec} (h : RowsOK rows) (hp : 0 < rows.length) (hk : ∀ x ∈ xs, RK x) (hf : ∀ i x, xs[i]? = some x → fitM x (rows ++ xs.take i) = true) (hw : cwM xs (1 + rows.length) (1 + rows.length - 1) [] = rows.length + xs.length) : RowsOK (rows ++ xs) := by
  refine ⟨fun x hx => (List.mem_append.mp hx).elim (h.k x) (hk x), fun i x hx => ?_, ?_⟩
  · by_cases z : i < rows.length
    · rw [List.getElem?_append_left z] at hx
      rw [List.take_append_of_le_length (by omega)]
      exact h.f i x hx
    · rw [List.getElem?_append_right (by omega)] at hx
      have := hf _ _ hx
      rw [show i = rows.length + (i - rows.length) by omega, List.take_append, List.take_of_length_le (by omega), show rows.length + (i - rows.length) - rows.length = i - rows.length by omega]
      exact this
  · rw [cw_app xs rows 1 0 [] (by rw [h.w]; omega) (fun z => by rw [z] at hp; cases hp) (by decide), hw, List.length_append]
theorem rows_call {rows : List Rec} (h : RowsOK rows) (hp : 0 < rows.length) {hh n : Nat} {m f : Str} {ad : List K6.AV} (hk : RK (.call hh n m f ad)) (hn : n = (rows.filter (isCall hh)).length) : RowsOK (rows ++ [.call hh n m f ad]) := by
  have ne : rows ≠ [] := fun z => by rw [z] at hp; cases hp
  refine h.app hp (fun x hx => by rw [List.mem_singleton.mp hx]; exact hk) (fun i x hx => ?_) ?_
  · cases i with
    | zero =>
      cases hx
      rw [List.take_zero, List.append_nil]
      exact fit_ne ne rfl fun h' n' m' f' ad' e => by cases e; exact hn
    | succ i => cases hx
  · show (if ([] : List Str).length ≠ 0 ∨ K6.twB [] = true then 1 + rows.length - 1 else cwM [] (1 + rows.length + 1) (1 + rows.length) []) = rows.length + 1
    rw [if_neg (fun z => z.elim (fun z => z rfl) (fun z => by cases z))]
    show 1 + rows.length = rows.length + 1
    omega
theorem rows_group {rows ts : List Rec} {n : Nat} (h : RowsOK rows) (hp : 0 < rows.length) (hx : ∀ x ∈ ts, isTx x = true) (hk : ∀ x ∈ ts, RK x) (hu : RK (.upd n)) (hn : ts.length = n) (ht : K6.twB (ts.map nmT) = false) : RowsOK (rows ++ (ts ++ [.upd n])) := by
  have ne : ∀ l, rows ++ l ≠ [] := fun l z => by
    have := congrArg List.length z
    rw [List.length_append] at this
    have this : rows.length + l.length = 0 := this
    omega
  refine h.app hp (fun x hx => (List.mem_append.mp hx).elim (hk x) fun z => by rw [List.mem_singleton.mp z]; exact hu) (fun i x hi => ?_) ?_
  · have hm := List.mem_of_getElem? hi
    rcases List.mem_append.mp hm with z | z
    · have := hx x z
      refine fit_ne (ne _) ?_ fun h' n' m' f' ad' e => ?_
      · cases x <;> first | rfl | cases this
      · rw [e] at this; cases this
    · rw [List.mem_singleton.mp z]
      exact fit_ne (ne _) rfl fun h' n' m' f' ad' e => by cases e
  · rw [cw_group (k := 0) ts _ [] hx (by rw [List.nil_append, List.length_map]; exact hn) (by rw [List.nil_append]; exact ht), List.length_append]
    show _ = rows.length + (ts.length + 1)
    omega
/-! ### rows that are drawn -/
theorem aL22 {a : K6.AV} (h : K6.aB a = true) : (K6.aL a).length ≤ 22 := by
  cases a with
  | i n =>
    obtain ⟨h1, h2⟩ : -99999 ≤ n ∧ n ≤ 99999 := of_decide_eq_true h
    rcases (show n < 0 ∨ 0 ≤ n by omega) with hn | hn
    · obtain ⟨m, rfl⟩ : ∃ m : Nat, n = -((m : Nat) : Int) := ⟨n.natAbs, by omega⟩
      rw [K6.aL_neg (by omega), List.length_cons]
      have := (K1.numT_dig (show m ≤ 99999 by omega)).2.1
      omega
    · obtain ⟨m, rfl⟩ : ∃ m : Nat, n = ((m : Nat) : Int) := ⟨n.natAbs, by omega⟩
      have := (K1.numT_dig (show m ≤ 99999 by omega)).2.1
      show (K1.numT m).length ≤ 22
      omega
  | s z =>
    unfold K6.aB K1.strV at h
    rw [Bool.and_eq_true] at h
    have := of_decide_eq_true h.1
    have e2 : z.cps.toList.length = z.length := Array.length_toList
    rw [K6.aL_str, List.length_append, List.length_append, e2]
    show 1 + z.length + 1 ≤ 22
    omega
theorem tL_le {x : Rec} {B : Nat} (h : ∀ p ∈ K6.partsR x, p.cps.toList.length ≤ B) : (tL x).length ≤ (K6.partsR x).length * (B + 1) := by
  unfold tL
  rw [K6.wR_list]
  have := K6.joinL_len (B := B) (ps := (K6.partsR x).map fun z => z.cps.toList) fun p hp => by
    obtain ⟨z, hz, rfl⟩ := List.mem_map.mp hp
    exact h z hz
  rw [List.length_map] at this
  exact this
theorem rk_txt {m t : Str} (hm : K1.nameB m = true) (hl : m.cps.toList.length ≤ 6) (ht : t.length ≤ 40) (hc : ∀ c ∈ t.cps.toList, c = 10 ∨ (K1.isCh c = true ∧ c ≠ 124)) : RK (.txt m t) := by
  refine ⟨⟨hm, by omega, hc⟩, ?_⟩
  have := tL_le (x := .txt m t) (B := 40) fun p hp => by
    simp only [K6.partsR, List.mem_cons, List.not_mem_nil, or_false] at hp
    rcases hp with rfl | rfl | rfl
    · decide
    · omega
    · rw [K6.repl_to, List.length_map]
      have e : t.cps.toList.length = t.length := Array.length_toList
      omega
  have e : (K6.partsR (.txt m t)).length = 3 := rfl
  rw [e] at this
  omega
theorem rk_rem {m : Str} (hm : K1.nameB m = true) (hl : m.cps.toList.length ≤ 6) : RK (.rem m) := by
  refine ⟨hm, ?_⟩
  have := tL_le (x := .rem m) (B := 6) fun p hp => by
    simp only [K6.partsR, List.mem_cons, List.not_mem_nil, or_false] at hp
    rcases hp with rfl | rfl
    · decide
    · omega
  have e : (K6.partsR (.rem m)).length = 2 := rfl
  rw [e] at this
  omega
theorem rk_upd {n : Nat} (h : n ≤ 8) : RK (.upd n) := by
  have key : ∀ n < 9, (tL (.upd n)).length ≤ 720 := by decide +kernel
  exact ⟨h, key n (by omega)⟩
theorem rk_call {h n : Nat} {m f : Str} {ad : List K6.AV} (h1 : h ≤ 2) (h2 : n ≤ 9999) (h3 : K1.nameB m = true) (h4 : K1.nameB f = true) (h5 : K6.argsB ad = true) (l1 : m.cps.toList.length ≤ 22) (l2 : f.cps.toList.length ≤ 22) : RK (.call h n m f ad) := by
  refine ⟨⟨h1, h2, h3, h4, h5⟩, ?_⟩
  have := tL_le (x := .call h n m f ad) (B := 22) fun p hp => by
    simp only [K6.partsR, List.mem_cons] at hp
    rcases hp with rfl | rfl | rfl | rfl | rfl | hp
    · decide
    · have := (K1.numT_dig (show h ≤ 99999 by omega)).2.1
      show (K1.numT h).length ≤ 22
      omega
    · have := (K1.numT_dig (show n ≤ 99999 by omega)).2.1
      show (K1.numT n).length ≤ 22
      omega
    · exact l1
    · exact l2
    · obtain ⟨a, ha, rfl⟩ := List.mem_map.mp hp
      exact aL22 ((K6.argsB_sm h5).2 a ha)
  have e : (K6.partsR (.call h n m f ad)).length = 5 + ad.length := by show (ad.map K6.aT).length + 5 = _; rw [List.length_map]; omega
  have a3 := (K6.argsB_sm h5).1
  rw [e] at this
  have : (5 + ad.length) * (22 + 1) ≤ 8 * 23 := Nat.mul_le_mul_right _ (by omega)
  omega
end K7

set_option maxRecDepth 100000
set_option maxHeartbeats 4000000
/-! what a cut leaves: blocks -/
namespace K7
open PySem hiding Tok code
open PySem.Spec PyProof.Rows GD K1
open L2 hiding rest
open K6 (Rec RecAt RecSm wR spWRec recV recA T2 ST recD RecOK)
open K4 (Blks BlkV encR iv decO DecV)
open K5 (DS DA Kz grow rdM stepS tnS cutM flM cutE cutL MO TxD TxP TxO passE z32)
def Fb (rows : List Rec) (i : Nat) : List Int := (blkL 0 rows).getD i z32
/-- zeros ahead, zeros behind -/
def Tn (f b : List Int) : Prop := b.length = 32 ∧ ∃ a c : Nat, ∀ j < 32, b.getD j 0 = if a ≤ j ∧ j < c then f.getD j 0 else 0
/-- zeros behind -/
def Pn (f b : List Int) : Prop := b.length = 32 ∧ ∃ c : Nat, ∀ j < 32, b.getD j 0 = if j < c then f.getD j 0 else 0
theorem Pn.tn {f b : List Int} (h : Pn f b) : Tn f b := by
  obtain ⟨l, c, e⟩ := h
  refine ⟨l, 0, c, fun j hj => ?_⟩
  rw [e j hj]
  by_cases z : j < c
  · rw [if_pos z, if_pos ⟨Nat.zero_le _, z⟩]
  · rw [if_neg z, if_neg (fun y => z y.2)]
theorem tear_get {f b : List Int} (hf : f.length = 32) (hb : b.length = 32) (n j : Nat) (hj : j < 32) : (f.take n ++ b.drop n).getD j 0 = if j < n then f.getD j 0 else b.getD j 0 := by
  by_cases h : j < n
  · rw [if_pos h, List.getD_eq_getElem?_getD, List.getElem?_append_left (by rw [List.length_take]; omega), List.getElem?_take_of_lt h, ← List.getD_eq_getElem?_getD]
  · rw [if_neg h, List.getD_eq_getElem?_getD, List.getElem?_append_right (by rw [List.length_take]; omega), List.getElem?_drop, List.length_take, ← List.getD_eq_getElem?_getD, show n + (j - min n f.length) = j by omega]
theorem tear_len {f b : List Int} (hf : f.length = 32) (hb : b.length = 32) (n : Nat) : (f.take n ++ b.drop n).length = 32 := by
  rw [List.length_append, List.length_take, List.length_drop]
  omega
theorem z32_get (j : Nat) : z32.getD j 0 = 0 := by
  unfold z32
  rw [List.getD_eq_getElem?_getD]
  by_cases h : j < 32
  · rw [List.getElem?_replicate, if_pos h]; rfl
  · rw [List.getElem?_replicate, if_neg h]; rfl
theorem z32_len : z32.length = 32 := List.length_replicate
theorem Tn.zero {f b : List Int} (h : Tn f b) (n : Nat) : Tn f (z32.take n ++ b.drop n) := by
  obtain ⟨hb, a, c, e⟩ := h
  refine ⟨tear_len z32_len hb n, max a n, c, fun j hj => ?_⟩
  rw [tear_get z32_len hb n j hj, e j hj, z32_get]
  by_cases h1 : j < n
  · rw [if_pos h1, if_neg (by omega)]
  · rw [if_neg h1]
    by_cases h2 : a ≤ j ∧ j < c
    · rw [if_pos h2, if_pos (by omega)]
    · rw [if_neg h2, if_neg (by omega)]
theorem Pn.wr {f b : List Int} (hf : f.length = 32) (h : Pn f b) (n : Nat) : Pn f (f.take n ++ b.drop n) := by
  obtain ⟨hb, c, e⟩ := h
  refine ⟨tear_len hf hb n, max n c, fun j hj => ?_⟩
  rw [tear_get hf hb n j hj, e j hj]
  by_cases h1 : j < n
  · rw [if_pos h1, if_pos (by omega)]
  · rw [if_neg h1]
    by_cases h2 : j < c
    · rw [if_pos h2, if_pos (by omega)]
    · rw [if_neg h2, if_neg (by omega)]
theorem Pn.self {f : List Int} (hf : f.length = 32) : Pn f f := ⟨hf, 32, fun j hj => by rw [if_pos hj]⟩
theorem Pn.zero (f : List Int) : Pn f z32 := ⟨z32_len, 0, fun j hj => by rw [if_neg (Nat.not_lt_zero _), z32_get]⟩
theorem eq_of_get {f b : List Int} (hf : f.length = 32) (hb : b.length = 32) (h : ∀ j < 32, b.getD j 0 = f.getD j 0) : b = f := by
  refine List.ext_getElem (by rw [hf, hb]) fun j h1 h2 => ?_
  have := h j (by omega)
  rw [List.getD_eq_getElem?_getD, List.getD_eq_getElem?_getD, List.getElem?_eq_getElem h1, List.getElem?_eq_getElem h2] at this
  exact this
theorem Pn.z {b : List Int} (h : Pn z32 b) : b = z32 := by
  obtain ⟨hb, c, e⟩ := h
  refine eq_of_get z32_len hb fun j hj => ?_
  rw [e j hj, z32_get]
  by_cases z : j < c
  · rw [if_pos z]
  · rw [if_neg z]
theorem dec_ends {b : List Int} (h : decO b ≠ none) : b.getD 0 0 = 83 ∧ b.getD 31 0 = 83 := by
  match b, h with
  | b0 :: b1 :: b2 :: b3 :: b4 :: b5 :: r, h =>
    rw [K4.decO_eq] at h
    by_cases z : b0 ≠ 83 ∨ r[25]? ≠ some 83
    · rw [if_pos z] at h; exact absurd rfl h
    · have z0 : b0 = 83 := Decidable.byContradiction fun y => z (.inl y)
      have z1 : r[25]? = some 83 := Decidable.byContradiction fun y => z (.inr y)
      refine ⟨z0, ?_⟩
      rw [List.getD_eq_getElem?_getD]
      show (r[25]?).getD 0 = 83
      rw [z1]
      rfl
  | [], h => exact absurd rfl h
  | [_], h => exact absurd rfl h
  | [_, _], h => exact absurd rfl h
  | [_, _, _], h => exact absurd rfl h
  | [_, _, _, _], h => exact absurd rfl h
  | [_, _, _, _, _], h => exact absurd rfl h
theorem Tn.dec {f b : List Int} (hf : f.length = 32) (h : Tn f b) (hd : decO b ≠ none) : b = f := by
  obtain ⟨hb, a, c, e⟩ := h
  obtain ⟨d0, d1⟩ := dec_ends hd
  have e0 := e 0 (by decide)
  have e1 := e 31 (by decide)
  rw [d0] at e0
  rw [d1] at e1
  have h0 : a ≤ 0 := by
    by_cases z : a ≤ 0 ∧ 0 < c
    · exact z.1
    · rw [if_neg z] at e0; cases e0
  have h1 : 31 < c := by
    by_cases z : a ≤ 31 ∧ 31 < c
    · exact z.2
    · rw [if_neg z] at e1; cases e1
  refine eq_of_get hf hb fun j hj => ?_
  rw [e j hj, if_pos (by omega)]
theorem blk_32 : ∀ (n : Nat) {xs : List Rec} {b : List Int}, b ∈ blkL n xs → b.length = 32
  | n, [], b, h => by cases h
  | n, x :: r, b, h => by
    rcases List.mem_append.mp h with h | h
    · exact rowB_32 h
    · exact blk_32 (n + 1) h
theorem Fb_len (rows : List Rec) (i : Nat) : (Fb rows i).length = 32 := by
  unfold Fb
  rw [List.getD_eq_getElem?_getD]
  cases e : (blkL 0 rows)[i]? with
  | none => exact z32_len
  | some b => exact blk_32 0 (List.mem_of_getElem? e)
theorem Fb_out {rows : List Rec} {i : Nat} (h : (blkL 0 rows).length ≤ i) : Fb rows i = z32 := by
  unfold Fb
  rw [List.getD_eq_getElem?_getD, List.getElem?_eq_none h]
  rfl
theorem blk_app (rows xs : List Rec) : blkL 0 (rows ++ xs) = blkL 0 rows ++ blkL rows.length xs := by rw [blkL_app, Nat.zero_add]
theorem Fb_app {rows xs : List Rec} {i : Nat} (h : i < (blkL 0 rows).length) : Fb (rows ++ xs) i = Fb rows i := by
  unfold Fb
  rw [blk_app, List.getD_eq_getElem?_getD, List.getD_eq_getElem?_getD, List.getElem?_append_left h]
theorem Fb_new {rows xs : List Rec} {i : Nat} (h : i < (blkL rows.length xs).length) : Fb (rows ++ xs) ((blkL 0 rows).length + i) = (blkL rows.length xs).getD i [] := by
  unfold Fb
  rw [blk_app, List.getD_eq_getElem?_getD, List.getD_eq_getElem?_getD, List.getElem?_append_right (by omega), Nat.add_sub_cancel_left, List.getElem?_eq_getElem h]
  rfl
theorem lenM_all (rows : List Rec) : lenM rows rows.length = (blkL 0 rows).length := by unfold lenM; rw [List.take_length]
theorem lenM_mono {rows : List Rec} {i j : Nat} (h : i ≤ j) : lenM rows i ≤ lenM rows j := by
  unfold lenM
  have e : rows.take j = rows.take i ++ (rows.take j).drop i := by
    have := (List.take_append_drop i (rows.take j)).symm
    rw [List.take_take, Nat.min_eq_left h] at this
    exact this
  rw [e, blk_app, List.length_append]
  omega
theorem lenM_app {rows xs : List Rec} {i : Nat} (h : i ≤ rows.length) : lenM (rows ++ xs) i = lenM rows i := by
  unfold lenM
  rw [List.take_append_of_le_length h]
theorem lenM_take {rows : List Rec} {i k : Nat} (h : i ≤ k) : lenM (rows.take k) i = lenM rows i := by
  unfold lenM
  rw [List.take_take, Nat.min_eq_left h]
theorem Fb_take {rows : List Rec} {i k : Nat} (h : i < lenM rows k) : Fb (rows.take k) i = Fb rows i := by
  have e : rows = rows.take k ++ rows.drop k := (List.take_append_drop k rows).symm
  have := Fb_app (xs := rows.drop k) (show i < (blkL 0 (rows.take k)).length from h)
  rw [← e] at this
  exact this.symm
/-! ### writes that are torn -/
theorem cut_inv {R : Nat → List Int → Prop} (tn : List Int) : ∀ (l : List (Nat × List Int)) (k : Nat) (st : List (List Int)), (∀ e ∈ l, ∀ b n, R e.1 b → R e.1 (e.2.take n ++ b.drop n)) → (∀ i < st.length, R i (st.getD i [])) → ∀ i < st.length, R i ((cutL tn l k st).getD i [])
  | [], k, st, _, h, i, hi => h i hi
  | e :: r, k, st, hl, h, i, hi => by
    show R i ((cutL tn r (k + 1) (cutE tn st k e)).getD i [])
    have cl := K5.cutE_len tn st k e
    refine cut_inv tn r (k + 1) (cutE tn st k e) (fun x hx => hl x (List.mem_cons_of_mem _ hx)) (fun j hj => ?_) i (by rw [cl]; exact hi)
    rw [cl] at hj
    unfold cutE
    rw [List.getD_eq_getElem?_getD]
    by_cases z : e.1 = j
    · subst z
      rw [List.getElem?_set_self hj]
      exact hl e (List.mem_cons_self ..) _ _ (h _ hj)
    · rw [List.getElem?_set_ne z, ← List.getD_eq_getElem?_getD]
      exact h j hj
theorem wrM_inl : ∀ (l : List (Nat × List Int)) (s x : DS), wrM s l = .inl x → ∃ s1 k, x = cutM s1 (tnS s1) ∧ s1.st = s.st ∧ s1.wa = s.wa ++ l.take k ∧ s1.cuts = s.cuts
  | [], s, x, h => by cases h
  | e :: r, s, x, h => by
    rw [wrM] at h
    cases h2 : stepS s with
    | none =>
      rw [h2] at h
      cases h
      exact ⟨s, 0, rfl, rfl, by rw [List.take_zero, List.append_nil], rfl⟩
    | some s2 =>
      rw [h2] at h
      obtain ⟨s1, k, a1, a2, a3, a4⟩ := wrM_inl r _ _ h
      obtain ⟨b1, b2, b3⟩ := K5.step_st h2
      refine ⟨s1, k + 1, a1, a2.trans b1, ?_, a4.trans b3⟩
      rw [a3]
      show s2.wa ++ [e] ++ r.take k = _
      rw [b2, List.append_assoc]
      rfl
theorem fluM_inl {s x : DS} (h : fluM s = .inl x) : x = cutM s (tnS s) := by
  unfold fluM at h
  cases h2 : stepS s with
  | none => rw [h2] at h; cases h; rfl
  | some s2 => rw [h2] at h; cases h
theorem fluM_inr {s x : DS} (h : fluM s = .inr x) : ∃ s1, x = flM s1 ∧ s1.st = s.st ∧ s1.wa = s.wa ∧ s1.cuts = s.cuts ∧ (tnS s1).length ≤ (tnS s).length := by
  unfold fluM at h
  cases h2 : stepS s with
  | none => rw [h2] at h; cases h
  | some s2 =>
    rw [h2] at h
    cases h
    obtain ⟨b1, b2, b3⟩ := K5.step_st h2
    refine ⟨s2, rfl, b1, b2, b3, ?_⟩
    rcases step_tn h2 with z | z
    · rw [z]; exact Nat.le_refl _
    · rw [z]; exact Nat.zero_le _
/-- a schedule that is far off -/
theorem wrM_far : ∀ (l : List (Nat × List Int)) (s : DS) (m : Nat) (tn : List Int), s.sc = some (m, tn) → l.length ≤ m → wrM s l = .inr ⟨s.st, s.wa ++ l, s.cuts, some (m - l.length, tn)⟩
  | [], s, m, tn, h, _ => by rw [List.append_nil]; show _ = Sum.inr (DS.mk s.st s.wa s.cuts (some (m - 0, tn))); rw [Nat.sub_zero, ← h]; rfl
  | e :: r, s, 0, tn, h, hl => by cases hl
  | e :: r, s, m + 1, tn, h, hl => by
    have hs : stepS s = some ⟨s.st, s.wa, s.cuts, some (m, tn)⟩ := by unfold stepS; rw [h]
    rw [List.length_cons] at hl ⊢
    rw [wrM, hs]
    have := wrM_far r (⟨s.st, s.wa ++ [e], s.cuts, some (m, tn)⟩ : DS) m tn rfl (by omega)
    rw [List.append_assoc] at this
    rw [show m + 1 - (r.length + 1) = m - r.length by omega]
    exact this
theorem fluM_far {s : DS} {m : Nat} {tn : List Int} (h : s.sc = some (m + 1, tn)) : fluM s = .inr (flM ⟨s.st, s.wa, s.cuts, some (m, tn)⟩) := by
  unfold fluM
  have hs : stepS s = some ⟨s.st, s.wa, s.cuts, some (m, tn)⟩ := by unfold stepS; rw [h]
  rw [hs]
end K7

set_option maxRecDepth 100000
set_option maxHeartbeats 4000000
/-! what a cut leaves: disks -/
namespace K7
open PySem hiding Tok code
open PySem.Spec PyProof.Rows GD K1
open L2 hiding rest
open K6 (Rec RecAt RecSm wR spWRec recV recA T2 ST recD RecOK)
open K4 (Blks BlkV encR iv decO DecV)
open K5 (DS DA Kz grow rdM stepS tnS cutM flM cutE cutL MO TxD TxP TxO passE z32)
/-- a disk behind a cut -/
structure Part (s : DS) (rows : List Rec) (y : Nat) : Prop where
  len : (blkL 0 rows).length ≤ s.st.length
  wa : s.wa = []
  tn : ∀ i < s.st.length, Tn (Fb rows i) (s.st.getD i [])
  ex : ∀ i < s.st.length, i < lenM rows y → s.st.getD i [] = Fb rows i
/-- a disk whose log is open -/
structure Pre (s : DS) (rows : List Rec) (y : Nat) : Prop where
  len : (blkL 0 rows).length ≤ s.st.length
  wr : ∀ e ∈ s.wa, e.1 < (blkL 0 rows).length ∧ e.2 = Fb rows e.1
  pn : ∀ i < s.st.length, Pn (Fb rows i) (s.st.getD i [])
  ex : ∀ i < s.st.length, i < lenM rows y → s.st.getD i [] = Fb rows i
theorem Pre.cut {s : DS} {rows : List Rec} {y : Nat} (h : Pre s rows y) (tn : List Int) : Part (cutM s tn) rows y := by
  have cl : (cutM s tn).st.length = s.st.length := K5.cutL_len tn s.wa 0 s.st
  have key := cut_inv (R := fun i b => Pn (Fb rows i) b ∧ (i < lenM rows y → b = Fb rows i)) tn s.wa 0 s.st (fun e he b n r => by
    rw [(h.wr e he).2]
    refine ⟨r.1.wr (Fb_len rows _) n, fun z => ?_⟩
    rw [r.2 z, List.take_append_drop]) fun i hi => ⟨h.pn i hi, h.ex i hi⟩
  exact ⟨by rw [cl]; exact h.len, rfl, fun i hi => (key i (by rw [cl] at hi; exact hi)).1.tn, fun i hi z => (key i (by rw [cl] at hi; exact hi)).2 z⟩
/-- writes of zeros, cut -/
theorem Part.cut {s s1 : DS} {rows : List Rec} {y n m k : Nat} (h : Part s rows y) (hn : lenM rows y ≤ n) (e1 : s1.st = s.st) (e2 : s1.wa = s.wa ++ (zs n m).take k) (tn : List Int) : Part (cutM s1 tn) rows y := by
  have cl : (cutM s1 tn).st.length = s.st.length := (K5.cutL_len tn s1.wa 0 s1.st).trans (by rw [e1])
  rw [h.wa, List.nil_append] at e2
  have key := cut_inv (R := fun i b => Tn (Fb rows i) b ∧ (i < lenM rows y → b = Fb rows i)) tn s1.wa 0 s1.st (fun e he b n' r => by
    rw [e2] at he
    obtain ⟨j, hj, rfl⟩ := List.mem_map.mp (List.mem_of_mem_take he)
    exact ⟨r.1.zero n', fun z => by
      have z : n + j < lenM rows y := z
      omega⟩) fun i hi => by
      rw [e1] at hi ⊢
      exact ⟨h.tn i hi, h.ex i hi⟩
  have sl : s1.st.length = s.st.length := by rw [e1]
  exact ⟨by rw [cl]; exact h.len, rfl, fun i hi => (key i (by rw [sl, ← cl]; exact hi)).1, fun i hi z => (key i (by rw [sl, ← cl]; exact hi)).2 z⟩
theorem plc_mem {u k : Nat} {bs : List (List Int)} {e : Nat × List Int} (h : e ∈ (plc u bs).take k) : ∃ i, i < bs.length ∧ e = (u + i, bs.getD i []) := by
  obtain ⟨j, hj, rfl⟩ := List.mem_map.mp (List.mem_of_mem_take h)
  exact ⟨j, List.mem_range.mp hj, rfl⟩
/-- some of the writes that append rows -/
theorem Pre.app {s s1 : DS} {rows xs : List Rec} {y k : Nat} (h : Pre s rows y) (hy : y ≤ rows.length) (hl : (blkL 0 rows).length + (blkL rows.length xs).length ≤ s.st.length) (e1 : s1.st = s.st) (e2 : s1.wa = s.wa ++ (plc (blkL 0 rows).length (blkL rows.length xs)).take k) : Pre s1 (rows ++ xs) y := by
  have eb : (blkL 0 (rows ++ xs)).length = (blkL 0 rows).length + (blkL rows.length xs).length := by rw [blk_app, List.length_append]
  have ly : lenM (rows ++ xs) y = lenM rows y := lenM_app hy
  have ly2 : lenM rows y ≤ (blkL 0 rows).length := by rw [← lenM_all]; exact lenM_mono hy
  refine ⟨by rw [eb, e1]; exact hl, fun e he => ?_, fun i hi => ?_, fun i hi z => ?_⟩
  · rw [e2] at he
    rcases List.mem_append.mp he with he | he
    · obtain ⟨a, b⟩ := h.wr e he
      exact ⟨by omega, by rw [b, Fb_app a]⟩
    · obtain ⟨i, hi, rfl⟩ := plc_mem he
      exact ⟨by rw [eb]; show (blkL 0 rows).length + i < _; omega, (Fb_new hi).symm⟩
  · rw [e1] at hi ⊢
    have := h.pn i hi
    by_cases z : i < (blkL 0 rows).length
    · rw [Fb_app z]; exact this
    · rw [Fb_out (by omega)] at this
      rw [this.z]
      exact Pn.zero _
  · rw [e1] at hi ⊢
    rw [ly] at z
    rw [Fb_app (by omega)]
    exact h.ex i hi z
theorem rd_eq {s s1 : DS} (e1 : s1.st = s.st) (e2 : s1.wa = s.wa) (i : Nat) : rdM s1 i = rdM s i := by
  unfold rdM
  rw [e1, e2]
theorem hold_app {s s1 : DS} {rows xs : List Rec} (h : Holds s rows) (hl : (blkL 0 rows).length + (blkL rows.length xs).length ≤ s.st.length) (e1 : s1.st = s.st) (e2 : s1.wa = s.wa ++ plc (blkL 0 rows).length (blkL rows.length xs)) : Holds s1 (rows ++ xs) := by
  obtain ⟨s2, hw, ho, _⟩ := app_holds (s := ⟨s.st, s.wa, s.cuts, none⟩) (xs := xs) ⟨h.len, fun i hi => h.vw i hi⟩ rfl hl
  rw [wrM_none _ _ rfl] at hw
  cases hw
  refine ⟨by rw [e1]; exact ho.len, fun i hi => ?_⟩
  rw [e1] at hi
  rw [← ho.vw i hi]
  exact rd_eq (s := ⟨s.st, s.wa ++ plc (blkL 0 rows).length (blkL rows.length xs), s.cuts, none⟩) e1 e2 i
/-- flushed -/
theorem Pre.flush {s s1 : DS} {rows : List Rec} {y : Nat} (h : Pre s rows y) (ho : Holds s rows) (e1 : s1.st = s.st) (e2 : s1.wa = s.wa) : Pre (flM s1) rows rows.length ∧ Holds (flM s1) rows := by
  have fl : (flM s1).st.length = s.st.length := (K5.fl_len _ _).trans (by rw [e1])
  have sl : s1.st.length = s.st.length := by rw [e1]
  have vw : ∀ i < s.st.length, (flM s1).st.getD i [] = Fb rows i := fun i hi => by
    have h1 : rdM (flM s1) i = rdM s1 i := rd_fl (by rw [sl]; exact hi)
    have h2 : rdM (flM s1) i = (flM s1).st.getD i [] := rfl
    rw [← h2, h1, rd_eq e1 e2]
    exact ho.vw i hi
  refine ⟨⟨by rw [fl]; exact h.len, fun e he => (by cases he), fun i hi => ?_, fun i hi _ => ?_⟩, ⟨by rw [fl]; exact ho.len, fun i hi => ?_⟩⟩
  · rw [fl] at hi
    rw [vw i hi]
    exact Pn.self (Fb_len _ _)
  · rw [fl] at hi
    exact vw i hi
  · rw [fl] at hi
    exact vw i hi
/-- cleared: behind the first n blocks there is nothing -/
theorem clear_part {s s1 : DS} {rows : List Rec} (h0 : s.wa = []) (hx : ∀ i < s.st.length, i < (blkL 0 rows).length → s.st.getD i [] = Fb rows i) (hl : (blkL 0 rows).length ≤ s.st.length) (e1 : s1.st = s.st) (e2 : s1.wa = s.wa ++ zs (blkL 0 rows).length s.st.length) : Pre (flM s1) rows rows.length ∧ Holds (flM s1) rows := by
  have fl : (flM s1).st.length = s.st.length := (K5.fl_len _ _).trans (by rw [e1])
  have sl : s1.st.length = s.st.length := by rw [e1]
  have vw : ∀ i < s.st.length, (flM s1).st.getD i [] = Fb rows i := fun i hi => by
    have h1 : rdM (flM s1) i = rdM s1 i := rd_fl (by rw [sl]; exact hi)
    have h2 : rdM (flM s1) i = (flM s1).st.getD i [] := rfl
    rw [← h2, h1]
    have h3 : rdM s1 i = rdM ⟨s.st, s.wa ++ zs (blkL 0 rows).length s.st.length, s.cuts, none⟩ i := rd_eq (s := ⟨s.st, s.wa ++ zs (blkL 0 rows).length s.st.length, s.cuts, none⟩) e1 e2 i
    rw [h3, rd_app, fold_zs, h0]
    by_cases z : (blkL 0 rows).length ≤ i
    · rw [if_pos ⟨z, hi⟩, Fb_out z]
    · rw [if_neg (fun y => z y.1)]
      exact hx i hi (by omega)
  refine ⟨⟨by rw [fl]; exact hl, fun e he => (by cases he), fun i hi => ?_, fun i hi _ => ?_⟩, ⟨by rw [fl]; exact hl, fun i hi => ?_⟩⟩
  · rw [fl] at hi
    rw [vw i hi]
    exact Pn.self (Fb_len _ _)
  · rw [fl] at hi
    exact vw i hi
  · rw [fl] at hi
    exact vw i hi
/-! ### what is read of it -/
theorem Part.h32 {s : DS} {rows : List Rec} {y : Nat} (h : Part s rows y) (hk : ∀ x ∈ rows, RK x) (hn : rows.length ≤ 65535) : ∀ i < s.st.length, (rdM s i).length = 32 ∧ ∀ y ∈ rdM s i, 0 ≤ y ∧ y ≤ 255 := fun i hi => by
  have e : rdM s i = s.st.getD i [] := by unfold rdM; rw [h.wa]; rfl
  rw [e]
  obtain ⟨l, a, c, g⟩ := h.tn i hi
  refine ⟨l, fun y hy => ?_⟩
  obtain ⟨j, hj, rfl⟩ := List.getElem_of_mem hy
  have := g j (by omega)
  rw [List.getD_eq_getElem?_getD, List.getElem?_eq_getElem hj] at this
  have this : (s.st.getD i [])[j] = if a ≤ j ∧ j < c then (Fb rows i).getD j 0 else 0 := this
  rw [this]
  by_cases z : a ≤ j ∧ j < c
  · rw [if_pos z]
    by_cases zi : i < (blkL 0 rows).length
    · have eb : (blkL 0 rows)[i]? = some ((blkL 0 rows)[i]) := List.getElem?_eq_getElem zi
      have ef : Fb rows i = (blkL 0 rows)[i] := by unfold Fb; rw [List.getD_eq_getElem?_getD, eb]; rfl
      rw [ef]
      obtain ⟨a9, b9⟩ := blkL_mem 0 (fun x hx => (hk x hx).rw.b) (by omega) (List.mem_of_getElem? eb)
      have hj2 : j < (blkL 0 rows)[i].length := by rw [a9]; omega
      rw [List.getD_eq_getElem?_getD, List.getElem?_eq_getElem hj2]
      have := List.all_eq_true.mp b9 _ (List.getElem_mem hj2)
      unfold K5.okb at this
      rw [Bool.and_eq_true] at this
      exact ⟨of_decide_eq_true this.1, of_decide_eq_true this.2⟩
    · rw [Fb_out (by omega), z32_get]
      decide
  · rw [if_neg z]
    decide
/-- the blocks of record i are there -/
def Ex (s : DS) (rows : List Rec) (i : Nat) : Prop := ∀ k, lenM rows i ≤ k → k < lenM rows (i + 1) → rdM s k = Fb rows k
theorem tx_part {s : DS} {rows : List Rec} (hk : ∀ x ∈ rows, RK x) (hl : (blkL 0 rows).length ≤ s.st.length) {i : Nat} {x : Rec} (hx : rows[i]? = some x) (h : Ex s rows i) : txM s (lenM rows i) i = some (tL x) := by
  have rk := hk x (List.mem_of_getElem? hx)
  obtain ⟨e1, e2, e3⟩ := lenM_le hx
  have cp : 1 ≤ K4.cnt (tL x) := by rw [← rowB_cnt 0]; exact cnt_pos x
  have c30 : K4.cnt (tL x) ≤ 30 := by
    have := rk.l
    unfold K4.cnt; omega
  have rd : ∀ k < K4.cnt (tL x), rdM s (lenM rows i + k) = K4.enc (k : Nat) (K4.cnt (tL x) : Nat) (i : Nat) (K4.piece (tL x) k) := fun k hk => by
    rw [h _ (by omega) (by omega), ← e3 k hk]
    rfl
  have dec : ∀ k < K4.cnt (tL x), decO (rdM s (lenM rows i + k)) = some (((k : Nat) : Int), ((K4.cnt (tL x) : Nat) : Int), ((i : Nat) : Int), K4.piece (tL x) k) := fun k hk => by
    rw [rd k hk]
    exact K4.dec_enc (by omega) (by omega) (K4.piece_pos hk) (K4.piece_len _ _) fun c hc => rk.ch c (K4.piece_mem hc)
  have d0 := dec 0 (by omega)
  rw [Nat.add_zero] at d0
  unfold txM
  rw [if_neg (by omega), d0]
  dsimp only
  rw [if_neg (by
    by_cases z : ((s.st.length : Nat) : Int) - ((lenM rows i : Nat) : Int) < 30
    · rw [if_pos z]; omega
    · rw [if_neg z]; omega)]
  have bk : bksM s (lenM rows i) ((K4.cnt (tL x) : Nat) : Int) = rowB i x := by
    unfold bksM rowB encR
    rw [Int.toNat_natCast]
    refine List.map_congr_left fun k hk => ?_
    exact rd k (List.mem_range.mp hk)
  have mm : (bksM s (lenM rows i) ((K4.cnt (tL x) : Nat) : Int)).mapM decO = some ((List.range (K4.cnt (tL x))).map fun k => (((k : Nat) : Int), ((K4.cnt (tL x) : Nat) : Int), ((i : Nat) : Int), K4.piece (tL x) k)) := by
    refine mapM_of ?_
    unfold bksM
    rw [Int.toNat_natCast, List.map_map, List.map_map]
    refine List.map_congr_left fun k hk => ?_
    exact dec k (List.mem_range.mp hk)
  rw [mm]
  dsimp only
  have fl : ((List.range (K4.cnt (tL x))).map fun k => (((k : Nat) : Int), ((K4.cnt (tL x) : Nat) : Int), ((i : Nat) : Int), K4.piece (tL x) k)).flatMap (fun q => q.2.2.2) = tL x := by
    rw [List.flatMap_map]
    exact all_pieces (tL x)
  rw [fl, bk]
  exact if_pos (K4.blkD_eq _)
theorem mapM_all {α β : Type} {f : α → Option β} : ∀ {l : List α} {m : List β}, l.mapM f = some m → ∀ x ∈ l, f x ≠ none
  | [], _, _, x, hx => by cases hx
  | a :: l, m, h, x, hx => by
    rw [List.mapM_cons] at h
    cases h1 : f a with
    | none => rw [h1] at h; cases h
    | some b =>
      rw [h1] at h
      cases h2 : l.mapM f with
      | none => rw [h2] at h; cases h
      | some m' =>
        rcases List.mem_cons.mp hx with rfl | hx
        · rw [h1]; exact fun z => by cases z
        · exact mapM_all h2 x hx
theorem tx_not {s : DS} {rows : List Rec} (hk : ∀ x ∈ rows, RK x) (hl : (blkL 0 rows).length ≤ s.st.length) (ht : ∀ i < s.st.length, Tn (Fb rows i) (rdM s i)) {i : Nat} (hi : i ≤ rows.length) {L : List Nat} (h : txM s (lenM rows i) i = some L) : i < rows.length ∧ Ex s rows i := by
  unfold txM at h
  have le : lenM rows i ≤ (blkL 0 rows).length := by rw [← lenM_all]; exact lenM_mono hi
  by_cases ea : lenM rows i = s.st.length
  · rw [if_pos ea] at h; cases h
  rw [if_neg ea] at h
  have h0 := ht (lenM rows i) (by omega)
  cases hd : decO (rdM s (lenM rows i)) with
  | none => rw [hd] at h; cases h
  | some t =>
    obtain ⟨i', m, num, p⟩ := t
    rw [hd] at h
    dsimp only at h
    have ef := h0.dec (Fb_len _ _) (by rw [hd]; exact fun z => by cases z)
    have lt : i < rows.length := by
      refine Decidable.byContradiction fun z => ?_
      have : i = rows.length := by omega
      subst this
      rw [Fb_out (by rw [lenM_all]; exact Nat.le_refl _)] at ef
      rw [ef] at hd
      cases hd
    refine ⟨lt, ?_⟩
    have hx : rows[i]? = some rows[i] := List.getElem?_eq_getElem lt
    have rk := hk _ (List.mem_of_getElem? hx)
    obtain ⟨e1, e2, e3⟩ := lenM_le hx
    have cp : 1 ≤ K4.cnt (tL rows[i]) := by rw [← rowB_cnt 0]; exact cnt_pos _
    have em : m = (K4.cnt (tL rows[i]) : Nat) := by
      have := e3 0 (by omega)
      rw [Nat.add_zero] at this
      rw [ef] at hd
      unfold Fb at hd
      rw [this, K4.dec_enc (by omega) (by omega) (K4.piece_pos (by omega)) (K4.piece_len _ _) fun c hc => rk.ch c (K4.piece_mem hc)] at hd
      injection hd with hd
      injection hd with a hd
      injection hd with b hd
      exact b.symm
    by_cases z : (if ((s.st.length : Nat) : Int) - ((lenM rows i : Nat) : Int) < 30 then ((s.st.length : Nat) : Int) - ((lenM rows i : Nat) : Int) else 30) < m
    · rw [if_pos z] at h; cases h
    rw [if_neg z] at h
    cases hm : (bksM s (lenM rows i) m).mapM decO with
    | none => rw [hm] at h; cases h
    | some ps =>
      intro k k1 k2
      have := mapM_all hm (rdM s k) (by
        unfold bksM
        refine List.mem_map.mpr ⟨k - lenM rows i, List.mem_range.mpr (by rw [em, Int.toNat_natCast]; omega), ?_⟩
        rw [show lenM rows i + (k - lenM rows i) = k by omega])
      exact (ht k (by omega)).dec (Fb_len _ _) this
theorem rl_part {s : DS} {rows : List Rec} (ok : RowsOK rows) (hl : (blkL 0 rows).length ≤ s.st.length) (ht : ∀ i < s.st.length, Tn (Fb rows i) (rdM s i)) : ∀ (k i : Nat) (es : List Nat), i ≤ rows.length → rows.length - i < k → es = (List.range i).map (fun j => lenM rows (j + 1)) → (∀ j < i, Ex s rows j) →
    ∃ e, i ≤ e ∧ e ≤ rows.length ∧ rlM s k (lenM rows i) (rows.take i) es = (rows.take e, (List.range e).map (fun j => lenM rows (j + 1))) ∧ (∀ j < e, Ex s rows j) ∧ (e < rows.length → ¬ Ex s rows e)
  | 0, i, es, _, h1, _, _ => by omega
  | k + 1, i, es, hi, h1, hes, he => by
    rw [rlM]
    by_cases z : i < rows.length ∧ Ex s rows i
    · have hx : rows[i]? = some rows[i] := List.getElem?_eq_getElem z.1
      have rk := ok.k _ (List.mem_of_getElem? hx)
      have hrc : rcM s (lenM rows i) (rows.take i) = some rows[i] := by
        unfold rcM
        rw [List.length_take, Nat.min_eq_left (by omega), tx_part ok.k hl hx z.2]
        dsimp only
        have : K6.readM (tL rows[i]) = some rows[i] := K6.read_back rk.ok
        rw [this]
        dsimp only
        rw [if_pos (ok.f i _ hx)]
      rw [hrc]
      dsimp only
      have tk : rows.take i ++ [rows[i]] = rows.take (i + 1) := by rw [List.take_add_one, hx]; rfl
      have el : lenM rows i + (rowB 0 rows[i]).length = lenM rows (i + 1) := by rw [rowB_cnt, (lenM_le hx).1]
      rw [tk, el]
      obtain ⟨e, a1, a2, a3, a4, a5⟩ := rl_part ok hl ht k (i + 1) (es ++ [lenM rows (i + 1)]) (by omega) (by omega) (by rw [hes, List.range_succ, List.map_append]; rfl) fun j hj => by
        by_cases zj : j < i
        · exact he j zj
        · rw [show j = i by omega]; exact z.2
      exact ⟨e, by omega, a2, a3, a4, a5⟩
    · have hrc : rcM s (lenM rows i) (rows.take i) = none := by
        unfold rcM
        rw [List.length_take, Nat.min_eq_left (by omega)]
        cases h : txM s (lenM rows i) i with
        | none => rfl
        | some L => exact absurd (tx_not ok.k hl ht hi h) z
      rw [hrc]
      exact ⟨i, Nat.le_refl _, hi, by rw [hes], he, fun y y2 => z ⟨y, y2⟩⟩
/-- opening a disk that was cut: which records are read -/
theorem all_part {s : DS} {rows : List Rec} {y : Nat} (h : Part s rows y) (ok : RowsOK rows) (hy : y ≤ rows.length) : ∃ e, y ≤ e ∧ e ≤ rows.length ∧ allM s = (rows.take e, (List.range e).map (fun j => lenM rows (j + 1))) ∧ ∀ i < s.st.length, i < lenM rows e → s.st.getD i [] = Fb rows i := by
  have er : ∀ i, rdM s i = s.st.getD i [] := fun i => by unfold rdM; rw [h.wa]; rfl
  have ht : ∀ i < s.st.length, Tn (Fb rows i) (rdM s i) := fun i hi => by rw [er]; exact h.tn i hi
  have bl := blkL_ge 0 rows
  have hl := h.len
  obtain ⟨e, _, a2, a3, a4, a5⟩ := rl_part ok h.len ht (s.st.length + 1) 0 [] (Nat.zero_le _) (by omega) rfl (fun j hj => by omega)
  have le : ∀ j ≤ rows.length, lenM rows j ≤ s.st.length := fun j hj => by
    have := lenM_mono (rows := rows) hj
    rw [lenM_all] at this
    omega
  refine ⟨e, ?_, a2, a3, fun i hi hie => ?_⟩
  · refine Decidable.byContradiction fun z => ?_
    refine a5 (by omega) fun k k1 k2 => ?_
    have m1 := lenM_mono (rows := rows) (show e + 1 ≤ y by omega)
    have := le (e + 1) (by omega)
    rw [er]
    exact h.ex k (by omega) (by omega)
  · rw [← er]
    -- the record in which block i lies
    have : ∀ n ≤ e, i < lenM rows n → ∃ j < n, lenM rows j ≤ i ∧ i < lenM rows (j + 1) := by
      intro n
      induction n with
      | zero => intro _ hz; cases hz
      | succ n ih =>
        intro hn hz
        by_cases zz : i < lenM rows n
        · obtain ⟨j, j1, j2⟩ := ih (by omega) zz
          exact ⟨j, by omega, j2⟩
        · exact ⟨n, by omega, by omega, hz⟩
    obtain ⟨j, j1, j2, j3⟩ := this e (Nat.le_refl _) hie
    exact a4 j j1 i j2 j3
end K7

set_option maxRecDepth 100000
set_option maxHeartbeats 4000000
/-! where rows may end; opening behind a cut -/
namespace K7
open PySem hiding Tok code
open PySem.Spec PyProof.Rows GD K1
open L2 hiding rest
open K6 (Rec RecAt RecSm wR spWRec recV recA T2 ST recD RecOK)
open K4 (Blks BlkV encR iv decO DecV)
open K5 (DS DA Kz grow rdM stepS tnS cutM flM cutE cutL MO TxD TxP TxO passE z32)
structure EG (rows : List Rec) (E : List Nat) : Prop where
  g : ∀ k, 1 ≤ k → k ≤ rows.length → ∃ e ∈ E, e = cwM (rows.take k) 1 0 [] ∧ e ≤ k ∧ ∀ e' ∈ E, e' ≤ k → e' ≤ e
  ok : ∀ e ∈ E, e ≤ rows.length ∧ 1 ≤ e ∧ RowsOK (rows.take e)
  l : rows.length ∈ E
theorem EG.rows {rows : List Rec} {E : List Nat} (h : EG rows E) : RowsOK rows := by
  have := (h.ok _ h.l).2.2
  rw [List.take_length] at this
  exact this
theorem EG.pos {rows : List Rec} {E : List Nat} (h : EG rows E) : 1 ≤ rows.length := (h.ok _ h.l).2.1
theorem EG.start {xs : List Str} (h : RowsOK [.ent xs]) : EG [.ent xs] [1] := by
  refine ⟨fun k h1 h2 => ?_, fun e he => ?_, List.mem_singleton.mpr rfl⟩
  · have h2 : k ≤ 1 := h2
    have : k = 1 := by omega
    subst this
    refine ⟨1, List.mem_singleton.mpr rfl, ?_, Nat.le_refl _, fun e' he' _ => by rw [List.mem_singleton.mp he']; exact Nat.le_refl _⟩
    exact h.w.symm
  · rw [List.mem_singleton.mp he]
    exact ⟨Nat.le_refl _, Nat.le_refl _, h⟩
theorem cw_tx : ∀ (ts : List Rec) (k w : Nat) (ch : List Str), (∀ x ∈ ts, isTx x = true) → cwM ts k w ch = w
  | [], _, _, _, _ => rfl
  | x :: r, k, w, ch, h => by
    have h1 := h x (List.mem_cons_self ..)
    cases x with
    | txt m t => exact cw_tx r (k + 1) w (ch ++ [m]) fun y hy => h y (List.mem_cons_of_mem _ hy)
    | rem m => exact cw_tx r (k + 1) w (ch ++ [m]) fun y hy => h y (List.mem_cons_of_mem _ hy)
    | upd _ => cases h1
    | ent _ => cases h1
    | call _ _ _ _ _ => cases h1
/-- rows that go together -/
def Grp (xs : List Rec) : Prop := ∃ ts r, xs = ts ++ [r] ∧ ∀ x ∈ ts, isTx x = true
theorem EG.app {rows xs : List Rec} {E : List Nat} (h : EG rows E) (ok : RowsOK (rows ++ xs)) (gr : Grp xs) : EG (rows ++ xs) (E ++ [(rows ++ xs).length]) := by
  obtain ⟨ts, r, rfl, ht⟩ := gr
  have el : (rows ++ (ts ++ [r])).length = rows.length + ts.length + 1 := by
    rw [List.length_append, List.length_append]
    rfl
  refine ⟨fun k h1 h2 => ?_, fun e he => ?_, List.mem_append.mpr (.inr (List.mem_singleton.mpr rfl))⟩
  · by_cases z : k ≤ rows.length
    · obtain ⟨e, a1, a2, a3, a4⟩ := h.g k h1 z
      refine ⟨e, List.mem_append.mpr (.inl a1), by rw [List.take_append_of_le_length z]; exact a2, a3, fun e' he' hk => ?_⟩
      rcases List.mem_append.mp he' with he' | he'
      · exact a4 e' he' hk
      · rw [List.mem_singleton.mp he', el] at hk
        omega
    · by_cases zz : k = (rows ++ (ts ++ [r])).length
      · subst zz
        refine ⟨_, List.mem_append.mpr (.inr (List.mem_singleton.mpr rfl)), ?_, Nat.le_refl _, fun e' _ hk => hk⟩
        rw [List.take_length]
        exact ok.w.symm
      · refine ⟨rows.length, List.mem_append.mpr (.inl h.l), ?_, by omega, fun e' he' hk => ?_⟩
        · rw [List.take_append, List.take_of_length_le (by omega), List.take_append_of_le_length (by omega)]
          rw [cw_app _ rows 1 0 [] (by rw [h.rows.w]; omega) (fun y => by rw [y] at z; have := h.pos; rw [y] at this; cases this) (by decide)]
          rw [cw_tx _ _ _ _ fun x hx => ht x (List.mem_of_mem_take hx)]
          omega
        · rcases List.mem_append.mp he' with he' | he'
          · exact (h.ok e' he').1
          · rw [List.mem_singleton.mp he'] at hk
            omega
  · rcases List.mem_append.mp he with he | he
    · obtain ⟨a1, a2, a3⟩ := h.ok e he
      exact ⟨by omega, a2, by rw [List.take_append_of_le_length a1]; exact a3⟩
    · rw [List.mem_singleton.mp he]
      exact ⟨Nat.le_refl _, by omega, by rw [List.take_length]; exact ok⟩
theorem EG.cut {rows : List Rec} {E : List Nat} (h : EG rows E) {e : Nat} (he : e ∈ E) : EG (rows.take e) (E.filter fun x => decide (x ≤ e)) := by
  obtain ⟨a1, a2, a3⟩ := h.ok e he
  have el : (rows.take e).length = e := by rw [List.length_take, Nat.min_eq_left a1]
  refine ⟨fun k h1 h2 => ?_, fun x hx => ?_, ?_⟩
  · rw [el] at h2
    obtain ⟨e1, b1, b2, b3, b4⟩ := h.g k h1 (by omega)
    refine ⟨e1, List.mem_filter.mpr ⟨b1, decide_eq_true (by omega)⟩, ?_, b3, fun e' he' hk => b4 e' (List.mem_filter.mp he').1 hk⟩
    rw [List.take_take, Nat.min_eq_left h2]
    exact b2
  · obtain ⟨b1, b2⟩ := List.mem_filter.mp hx
    have b2 := of_decide_eq_true b2
    obtain ⟨c1, c2, c3⟩ := h.ok x b1
    exact ⟨by omega, c2, by rw [List.take_take, Nat.min_eq_left b2]; exact c3⟩
  · rw [el]
    exact List.mem_filter.mpr ⟨he, decide_eq_true (Nat.le_refl _)⟩
/-- opening a disk that was cut -/
theorem open_part {s : DS} {rows : List Rec} {E : List Nat} {y : Nat} (h : Part s rows y) (eg : EG rows E) (hy : y ∈ E) : ∃ e ∈ E, y ≤ e ∧ (allM s).1 ≠ [] ∧ (allM s).1.take (whM s) = rows.take e ∧ usM s = lenM rows e ∧ ∀ i < s.st.length, i < lenM rows e → s.st.getD i [] = Fb rows i := by
  obtain ⟨y1, y2, _⟩ := eg.ok y hy
  obtain ⟨k, k1, k2, ea, hx⟩ := all_part h eg.rows y1
  obtain ⟨e, e1, e2, e3, e4⟩ := eg.g k (by omega) k2
  obtain ⟨f1, f2, _⟩ := eg.ok e e1
  have ye := e4 y hy k1
  have w : whM s = e := by unfold whM; rw [ea]; exact e2.symm
  refine ⟨e, e1, ye, ?_, ?_, ?_, fun i hi hl => hx i hi (Nat.lt_of_lt_of_le hl (lenM_mono e3))⟩
  · rw [ea]
    intro z
    have z : rows.take k = [] := z
    have := congrArg List.length z
    rw [List.length_take] at this
    have this : min k rows.length = 0 := this
    omega
  · rw [w, ea]
    show (rows.take k).take e = _
    rw [List.take_take, Nat.min_eq_left e3]
  · unfold usM
    rw [w, ea]
    show ((List.range k).map fun j => lenM rows (j + 1)).getD (e - 1) 0 = _
    rw [List.getD_eq_getElem?_getD, List.getElem?_map, List.getElem?_range (by omega)]
    show lenM rows (e - 1 + 1) = _
    rw [show e - 1 + 1 = e by omega]
theorem clM_inl {s s' : DS} {rows : List Rec} {y e : Nat} (h : Part s rows y) (hy : y ≤ e) (hc : clM s (lenM rows e) = .inl s') : Part s' rows y ∧ s'.st.length = s.st.length ∧ s'.sc = none := by
  have key : ∀ s1 k, s1.st = s.st → s1.wa = s.wa ++ (zs (lenM rows e) s.st.length).take k → s' = cutM s1 (tnS s1) → Part s' rows y ∧ s'.st.length = s.st.length ∧ s'.sc = none := fun s1 k e1 e2 z => by
    subst z
    exact ⟨h.cut (lenM_mono hy) e1 e2 _, (K5.cutL_len _ s1.wa 0 s1.st).trans (by rw [e1]), rfl⟩
  unfold clM at hc
  cases hw : wrM s (zs (lenM rows e) s.st.length) with
  | inl x =>
    rw [hw] at hc
    cases hc
    obtain ⟨s1, k, a1, a2, a3, _⟩ := wrM_inl _ _ _ hw
    exact key s1 k a2 a3 a1
  | inr s2 =>
    rw [hw] at hc
    obtain ⟨a1, a2, _, _⟩ := wrM_st _ _ _ hw
    exact key s2 _ a1 (by rw [a2, List.take_of_length_le (Nat.le_refl _)]) (fluM_inl hc)
theorem clM_inr {s s' : DS} {rows : List Rec} {y e : Nat} (h : Part s rows y) (he : e ≤ rows.length) (hx : ∀ i < s.st.length, i < lenM rows e → s.st.getD i [] = Fb rows i) (hc : clM s (lenM rows e) = .inr s') : Pre s' (rows.take e) e ∧ Holds s' (rows.take e) ∧ s'.wa = [] ∧ s'.st.length = s.st.length ∧ s'.cuts = s.cuts ∧ (tnS s').length ≤ (tnS s).length := by
  unfold clM at hc
  cases hw : wrM s (zs (lenM rows e) s.st.length) with
  | inl x => rw [hw] at hc; cases hc
  | inr s2 =>
    rw [hw] at hc
    obtain ⟨a1, a2, a3, a4⟩ := wrM_st _ _ _ hw
    obtain ⟨s1, b1, b2, b3, b4, b5⟩ := fluM_inr hc
    subst b1
    have el : (rows.take e).length = e := by rw [List.length_take, Nat.min_eq_left he]
    have le : lenM rows e ≤ (blkL 0 rows).length := by rw [← lenM_all]; exact lenM_mono he
    have := h.len
    obtain ⟨c1, c2⟩ := clear_part (s := s) (s1 := s1) (rows := rows.take e) h.wa (fun i hi hl => by
      rw [Fb_take hl]
      exact hx i hi hl) (by show lenM rows e ≤ _; omega) (b2.trans a1) (b3.trans a2)
    rw [el] at c1
    exact ⟨c1, c2, rfl, (K5.fl_len _ _).trans (by rw [b2, a1]), b4.trans a3, Nat.le_trans b5 a4⟩
end K7

set_option maxRecDepth 100000
set_option maxHeartbeats 4000000
/-! the law's rows -/
namespace K7
open PySem hiding Tok code
open PySem.Spec PyProof.Rows GD K1
open L2 hiding rest
open K6 (Rec RecAt RecSm wR spWRec recV recA T2 ST recD RecOK AV aV)
open K4 (Blks BlkV encR iv decO DecV)
open K5 (DS DA Kz grow rdM stepS tnS cutM flM MO TxD TxP TxO passE z32 rLenK call_lenK)
abbrev sRows : Stmt := topS 83
def nm4 : List Str := ["a", "b", "c", "d"]
def subs : Nat → List (List Str)
  | 0 => [[]]
  | i + 1 => subs i ++ (subs i).map fun l => l ++ [nm4.getD i ""]
theorem subs_ok : ∀ i ≤ 4, ∀ l ∈ subs i, K6.twB l = false ∧ l.length ≤ i := by decide +kernel
theorem nm4_ok : ∀ z ∈ nm4, K1.nameB z = true ∧ z.cps.toList.length ≤ 6 := by decide +kernel
section
variable {P : Program} {w : World} {K : PySem.W.Frag} {mg : Str → Option Value} {base : Heap} {C CL NO LF PC D PN PV NK : Addr}
theorem tupB {b d : Addr} {ds : List Int} {H H' : Hp} {n n0 : Nat} (y : Bs b d ds H H' n) (x : Box H b d ds n0) : ∀ q xs, H q = some (.tup xs) → H' q = some (.tup xs) := fun q xs e => y.bx q _ (ne_of e x.1 (by intro z; cases z)) e
def mm3 : List Str := ["a", "b", "zz"]
def ff4 : List Str := ["f", "g", "x", "k"]
theorem mm3_ok : ∀ z ∈ mm3 ++ ff4, K1.nameB z = true ∧ z.cps.toList.length ≤ 22 := by decide +kernel
def spRows : L2.Sp := fun vs H Q _ => ∃ (b d : Addr) (ds : List Int) (n : Nat) (ra : Addr) (ws : List V) (rows : List Rec), vs = [.ref b, .ref ra] ∧ Box H b d ds n ∧ H ra = some (.lst ws) ∧ ra ≠ b ∧ LsR H ws rows ∧ RowsOK rows ∧ 0 < rows.length ∧ rows.length ≤ 500 ∧
  ∀ H' n' l us xs, Bs b d ds H H' n' → H l = none → H' l = some (.lst us) → LsR H' us xs → (∀ x ∈ xs, RK x) → RowsOK (rows ++ xs) → xs.length ≤ 5 → Grp xs → Q (.ref l) H'
theorem scRows : FnScope ["box", "records", "kind", "holder", "count", "record", "arguments", "k", "rows", "name", "part"] ["box", "records"] (defScope sRows) := ⟨rfl, rfl, rfl, by decide +kernel, rfl, by decide +kernel, by decide +kernel⟩
theorem ok_rows {f f1 f2 f3 : Addr} {fd fd1 fd2 fd3 : FuncData} (F : Fun K "_law_some_rows" "_law_some_rows" sRows f fd) (T : Txt K mg) (T2' : TxB mg) (FD : K6.FO P w K mg base CX0 1 "_law_draw" ["box", "many"] spDraw f1 fd1)
    (FV : K6.FO P w K mg base CX0 2 "_law_some_value" ["box"] K6.spSomeV f2 fd2) (FT : K6.FO P w K mg base CX0 2 "_law_small_text" ["box"] spSmall f3 fd3) : FnOk P w K mg base CX0 3 f fd ["box", "records"] spRows := by
  have sc := scRows
  have T2 := T2'
  refine F.ok sc (fun vs H Q E h => ?_) (fun cdv A outer s H vs Q E hr h => ?_)
  · obtain ⟨b, d, ds, n, ra, ws, rows, rfl, _⟩ := h
    rfl
  · obtain ⟨b, d, ds, n, ra, ws, rows, rfl, hB, hra, nrb, hrw, ok, hp, hl, q⟩ := h
    refine ⟨_, (pss_cons (ps_set (i := 2) sc.nd rfl (Or.inl rfl) (pe_call FD.ok (hr.mono (by decide)) (by rfl) FD.m FD.kp FD.b .nil pass0 (pa_cons (pv 0) (pa_cons pe_int pa_nil))))
      (pss_cons (ps_if (pt_cmpR op_eq (pv 2) pe_int (nomark _))
      (pss_cons (ps_set (i := 3) sc.nd rfl (Or.inr rfl) (pe_call FD.ok (hr.mono (by decide)) (by rfl) FD.m FD.kp FD.b .nil pass0 (pa_cons (pv 0) (pa_cons pe_int pa_nil))))
      (pss_cons (ps_set (i := 4) sc.nd rfl (Or.inl rfl) (pe_callB call_len_seq (by rfl) T.len (by decide +kernel) (pa_cons (pe_lc (own := [("record", 5)]) rfl sc.nd (pi_list (pv 1)) (blkOk_by (own := [("record", 5)]) (N := ["box", "records", "kind", "holder", "count", "record", "arguments", "k", "rows", "name", "part"]) (sc := defScope sRows) (by decide +kernel)) (fun _ _ _ _ _ => (pg_name (i := 5) sc.nd rfl (Or.inl rfl))) (fun _ _ _ _ _ => (pts_one (PW.pt (pw_and (pt_cmpR op_eq (pe_ix (show IxR _ (rIxT K) from ix_tup) (pv 5) pe_int (fun _ _ => rfl)) pe_str (nomark _)) (pw_and1 (pt_cmpR op_eq (pe_ix (show IxR _ (rIxT K) from ix_tup) (pv 5) pe_int (fun _ _ => rfl)) (pv 3) (nomark _))))))) (fun _ _ _ _ _ => (pv 5))) pa_nil)))
      (pss_cons (ps_set (i := 6) sc.nd rfl (Or.inl rfl) (pe_callTy call_tuple_of (by rfl) T2.btuple (by decide +kernel) (pa_cons (pe_lc (own := [("k", 7)]) rfl sc.nd (pi_range1 rfl T.range (pa_cons (pe_call FD.ok (hr.mono (by decide)) (by rfl) FD.m FD.kp FD.b .nil pass0 (pa_cons (pv 0) (pa_cons pe_int pa_nil))) pa_nil)) (blkOk_by (own := [("k", 7)]) (N := ["box", "records", "kind", "holder", "count", "record", "arguments", "k", "rows", "name", "part"]) (sc := defScope sRows) (by decide +kernel)) (fun _ _ _ _ _ => (pg_name (i := 7) sc.nd rfl (Or.inl rfl))) (fun _ _ _ _ _ => pts_nil) (fun _ _ _ _ _ => (pe_call FV.ok hr (by rfl) FV.m FV.kp FV.b .nil pass0 (pa_cons (pv 0) pa_nil)))) pa_nil)))
      (pss_one (ps_ret (pe_lst (pa_cons (pe_tup (pa_cons pe_str (pa_cons (pv 3) (pa_cons (pv 4) (pa_cons (pe_ix ix_list (pe_lst (pa_cons pe_str (pa_cons pe_str (pa_cons pe_str pa_nil)))) (pe_call FD.ok (hr.mono (by decide)) (by rfl) FD.m FD.kp FD.b .nil pass0 (pa_cons (pv 0) (pa_cons pe_int pa_nil))) (fun _ _ => rfl)) (pa_cons (pe_ix ix_list (pe_lst (pa_cons pe_str (pa_cons pe_str (pa_cons pe_str (pa_cons pe_str pa_nil))))) (pe_call FD.ok (hr.mono (by decide)) (by rfl) FD.m FD.kp FD.b .nil pass0 (pa_cons (pv 0) (pa_cons pe_int pa_nil))) (fun _ _ => rfl)) (pa_cons (pv 6) pa_nil))))))) pa_nil)))))))
      pss_nil)
      (pss_cons (ps_set (i := 8) sc.nd rfl (Or.inl rfl) (pe_lst pa_nil))
      (pss_cons (ps_for PassesOwn.never rfl (pi_list (pe_lst (pa_cons pe_str (pa_cons pe_str (pa_cons pe_str (pa_cons pe_str pa_nil)))))) (pg_name (i := 9) sc.nd rfl (Or.inl rfl))
      (pss_cons (ps_set (i := 10) sc.nd rfl (Or.inl rfl) (pe_call FD.ok (hr.mono (by decide)) (by rfl) FD.m FD.kp FD.b .nil pass0 (pa_cons (pv 0) (pa_cons pe_int pa_nil))))
      (pss_one (ps_if (pt_cmpR op_eq (pv 10) pe_int (nomark _))
      (pss_one (ps_expr (pe_bm PySem.F.plainAttrs_list PySem.F.slot_list_append PySem.F.type_list_append mt_append (pv 8) (pa_cons (pe_tup (pa_cons pe_str (pa_cons (pv 9) pa_nil))) pa_nil))))
      (pss_one (ps_if (pt_cmpR op_le (pv 10) pe_int (nomark _))
      (pss_one (ps_expr (pe_bm PySem.F.plainAttrs_list PySem.F.slot_list_append PySem.F.type_list_append mt_append (pv 8) (pa_cons (pe_tup (pa_cons pe_str (pa_cons (pv 9) (pa_cons (pe_call FT.ok hr (by rfl) FT.m FT.kp FT.b .nil pass0 (pa_cons (pv 0) pa_nil)) pa_nil)))) pa_nil))))
      pss_nil))))))
      (pss_one (ps_ret (pe_op op_cat (pv 8) (pe_lst (pa_cons (pe_tup (pa_cons pe_str (pa_cons (pe_callB call_len_seq (by rfl) T.len (by decide +kernel) (pa_cons (pv 8) pa_nil)) pa_nil))) pa_nil))))))))), ?_⟩
    refine ⟨_, rfl, b, d, ds, n, 3, rfl, hB, by decide, fun r0 h0 h1 => ?_⟩
    have bb := (Bs.refl hB).draw
    have hrw1 : LsR (upd H b (.lst [.ref d, .int ((n + 1 : Nat) : Int)])) ws rows := hrw.keep (tupB bb hB)
    have hra1 := bb.bx _ _ nrb hra
    generalize upd H b (.lst [.ref d, .int ((n + 1 : Nat) : Int)]) = H1 at *
    refine nxp ⟨_, rfl, rfl, _, rfl, ite2 (fun _ => ?_) (fun _ => ?_)⟩
    · refine ⟨_, rfl, b, d, ds, n + 1, 3, rfl, bb.box, by decide, fun r1 h2 h3 => ?_⟩
      obtain ⟨hh, rfl, hhh⟩ := idx (m := 3) h2 h3
      have b2 := (Bs.refl bb.box).draw
      have hrw2 : LsR (upd H1 b (.lst [.ref d, .int ((n + 1 + 1 : Nat) : Int)])) ws rows := hrw1.keep (tupB b2 bb.box)
      have hra2 := b2.bx _ _ nrb hra1
      have bb := bb.trans b2
      clear b2
      generalize upd H1 b (.lst [.ref d, .int ((n + 1 + 1 : Nat) : Int)]) = H2 at *
      refine nxp ⟨_, rfl, ra, rfl, ⟨_, SqL.of hra2⟩, fun D nD => ?_⟩
      refine lc_it (walk_list (K := K) (a := ra) (xs := ws)) (fun j H' => ∃ us, Same H2 H' ∧ H' D = some (.lst us) ∧ us.length = ((rows.take j).filter (isCall hh)).length) ⟨[], Same.lst (Same.refl _) nD, upd_same, rfl⟩ (fun j H' _ pv => ?_) (fun j v H3 H4 hj pv y => ?_) (fun H3 pv => ?_)
      · obtain ⟨_, s2, _⟩ := pv
        exact SqL.of (s2 _ _ hra2)
      · obtain ⟨us, s2, eD, hu⟩ := pv
        obtain ⟨rfl, hv⟩ := y
        obtain ⟨y, hy, r2, rfl, hr⟩ := pairAt hrw2 hv
        have hr' : RecAt H4 r2 y := RecAt.keep (fun q xs e => s2 q _ e) hr
        have tk : (rows.take (j + 1)).filter (isCall hh) = (rows.take j).filter (isCall hh) ++ [y].filter (isCall hh) := by rw [List.take_add_one, hy]; exact List.filter_append ..
        have ul : us.length ≤ 1000 := by
          rw [hu]
          have := List.length_filter_le (isCall hh) (rows.take j)
          rw [List.length_take] at this
          omega
        obtain ⟨v2, xs2, hh2⟩ := RecAt.hd hr'
        refine ⟨rfl, _, rfl, r2, _, _, _, rfl, rfl, SqT.of hh2, atI_nat (j := 0) rfl, rfl, _, rfl, ?_⟩
        rw [word_call2]
        cases y with
        | ent _ => exact iteF (iteF ⟨us, s2, eD, by rw [hu, tk]; simp [isCall]⟩)
        | txt _ _ => exact iteF (iteF ⟨us, s2, eD, by rw [hu, tk]; simp [isCall]⟩)
        | rem _ => exact iteF (iteF ⟨us, s2, eD, by rw [hu, tk]; simp [isCall]⟩)
        | upd _ => exact iteF (iteF ⟨us, s2, eD, by rw [hu, tk]; simp [isCall]⟩)
        | call h' n' m' f' ad' =>
          obtain ⟨ab, hr3, _⟩ := hr'
          refine iteT ⟨_, rfl, r2, _, _, _, rfl, rfl, SqT.of hr3, atI_nat (j := 1) rfl, ?_⟩
          refine ⟨_, rfl, rfl, _, rfl, ?_⟩
          by_cases eh : h' = hh
          · refine K5.iteY (decide_eq_true (by rw [eh])) ?_
            refine ⟨_, rfl, us, eD, szlt (by omega), us ++ [.ref r2], fun z o e => by rw [upd_ne (ne_of_none e nD)]; exact s2 _ _ e, upd_same, ?_⟩
            rw [List.length_append, hu, tk, List.length_append]
            simp [isCall, eh]
          · refine K5.iteE (decide_eq_false fun z => eh (by injection z with z; omega)) ⟨us, s2, eD, ?_⟩
            rw [hu, tk]
            simp [isCall, eh]
      obtain ⟨us, s2, eD, hu⟩ := pv
      have lw := pairLen hrw
      rw [lw, List.take_length] at hu
      refine ⟨D, us, rfl, .inl (SqL.of eD), ?_⟩
      rw [hu]
      obtain ⟨cn, ecn⟩ : ∃ cn, cn = (rows.filter (isCall hh)).length := ⟨_, rfl⟩
      rw [← ecn]
      have cnl : cn ≤ 9999 := by
        have := List.length_filter_le (isCall hh) rows
        omega
      have box3 : Box H3 b d ds (n + 1 + 1) := ⟨s2 _ _ bb.box.1, s2 _ _ bb.box.2.1, bb.box.2.2⟩
      have bb3 : Bs b d ds H H3 (n + 1 + 1) := ⟨fun q o nb e => s2 _ _ (bb.bx q o nb e), box3, fun q z => bb.free q (K5.sfree s2 z)⟩
      refine nxp ⟨_, rfl, b, d, ds, _, 4, rfl, box3, by decide, fun r3 h4 h5 => ?_⟩
      obtain ⟨ma, rfl, hma⟩ := idx (m := 4) h4 h5
      have bb4 := bb3.draw
      generalize upd H3 b (.lst [.ref d, .int ((n + 1 + 1 + 1 : Nat) : Int)]) = H4 at *
      refine ⟨_, rfl, by omega, by omega, fun D2 nD2 => ?_⟩
      refine lc_range (lo := 0) (n := ma) (fun i H' => ∃ (ad : List AV) (n' : Nat), Bs b d ds H4 H' n' ∧ H' D2 = some (.lst (ad.map aV)) ∧ ad.length = i ∧ ∀ a ∈ ad, K6.aB a = true) ⟨[], _, (Bs.refl bb4.box).new nD2, upd_same, rfl, fun a h => (by cases h)⟩ (fun i H' hi pv => ?_) (fun H' pv => ?_)
      · obtain ⟨ad, n', bs, e2, la, ga⟩ := pv
        refine ⟨rfl, _, rfl, b, d, ds, n', rfl, bs.box, fun H6 n6 a6 bs6 g6 => ?_⟩
        have e26 := bs6.bx _ _ ((Bs.refl bb4.box).nb nD2) e2
        refine ⟨_, e26, szlt (by rw [List.length_map]; omega), ad ++ [a6], n6, (bs.trans bs6).wr bb4.box nD2, by rw [upd_same, List.map_append]; rfl, by rw [List.length_append, la]; rfl, fun a h => ?_⟩
        rcases List.mem_append.mp h with h | h
        · exact ga a h
        · rw [List.mem_singleton.mp h]; exact g6
      obtain ⟨ad, n', bs5, e2, la, ga⟩ := pv
      refine ⟨D2, _, rfl, .inl ⟨SqL.of e2, fun p np => ?_⟩⟩
      have bb5 := (bb4.trans bs5).new (o := .tup (ad.map aV)) np
      have ep : upd H' p (.tup (ad.map aV)) p = some (.tup (ad.map aV)) := upd_same
      generalize upd H' p (.tup (ad.map aV)) = H6 at *
      refine nxp ?_
      refine ⟨_, rfl, _, rfl, (by show 3 ≤ sizeLine; decide), fun l1 nl1 => ?_⟩
      have bb6 := bb5.new (o := .lst [.str "a", .str "b", .str "zz"]) nl1
      have nl1b := bb5.nb nl1
      have el1 : upd H6 l1 (.lst [.str "a", .str "b", .str "zz"]) l1 = some (.lst [.str "a", .str "b", .str "zz"]) := upd_same
      have ep : upd H6 l1 (.lst [.str "a", .str "b", .str "zz"]) p = some (.tup (ad.map aV)) := by rw [upd_ne (ne_of_none ep nl1)]; exact ep
      generalize upd H6 l1 (.lst [.str "a", .str "b", .str "zz"]) = H7 at *
      refine ⟨_, rfl, b, d, ds, _, 3, rfl, bb6.box, by decide, fun r4 h6 h7 => ?_⟩
      obtain ⟨j1, rfl, hj1⟩ := idx (m := 3) h6 h7
      have b7 := (Bs.refl bb6.box).draw
      have bb7 := bb6.trans b7
      have el1 := b7.bx _ _ nl1b el1
      have ep := tupB b7 bb6.box _ _ ep
      clear b7
      generalize upd H7 b (.lst [.ref d, .int ((n' + 1 : Nat) : Int)]) = H8 at *
      obtain ⟨z1, hz1⟩ : ∃ z, mm3[j1]? = some z := ⟨_, List.getElem?_eq_getElem (show j1 < 3 from hj1)⟩
      refine ⟨l1, _, _, .str z1, rfl, rfl, SqL.of el1, atI_nat (by show (mm3.map V.str)[j1]? = _; rw [List.getElem?_map, hz1]; rfl), (by show 4 ≤ sizeLine; decide), fun l2 nl2 => ?_⟩
      have bb8 := bb7.new (o := .lst [.str "f", .str "g", .str "x", .str "k"]) nl2
      have nl2b := bb7.nb nl2
      have el2 : upd H8 l2 (.lst [.str "f", .str "g", .str "x", .str "k"]) l2 = some (.lst [.str "f", .str "g", .str "x", .str "k"]) := upd_same
      have ep : upd H8 l2 (.lst [.str "f", .str "g", .str "x", .str "k"]) p = some (.tup (ad.map aV)) := by rw [upd_ne (ne_of_none ep nl2)]; exact ep
      generalize upd H8 l2 (.lst [.str "f", .str "g", .str "x", .str "k"]) = H9 at *
      refine ⟨_, rfl, b, d, ds, _, 4, rfl, bb8.box, by decide, fun r5 h8 h9 => ?_⟩
      obtain ⟨j2, rfl, hj2⟩ := idx (m := 4) h8 h9
      have b9 := (Bs.refl bb8.box).draw
      have bb9 := bb8.trans b9
      have el2 := b9.bx _ _ nl2b el2
      have ep := tupB b9 bb8.box _ _ ep
      clear b9
      generalize upd H9 b (.lst [.ref d, .int ((n' + 1 + 1 : Nat) : Int)]) = HA at *
      obtain ⟨z2, hz2⟩ : ∃ z, ff4[j2]? = some z := ⟨_, List.getElem?_eq_getElem (show j2 < 4 from hj2)⟩
      refine ⟨l2, _, _, .str z2, rfl, rfl, SqL.of el2, atI_nat (by show (ff4.map V.str)[j2]? = _; rw [List.getElem?_map, hz2]; rfl), _, rfl, (by show 6 ≤ sizeLine; decide), fun t nt => ⟨(by show 1 ≤ sizeLine; decide), fun l nl => ?_⟩⟩
      have bbB := (bb9.new nt).new (o := .lst [.ref t]) nl
      obtain ⟨m1, m2⟩ := mm3_ok z1 (List.mem_append.mpr (.inl (List.mem_of_getElem? hz1)))
      obtain ⟨f1, f2⟩ := mm3_ok z2 (List.mem_append.mpr (.inr (List.mem_of_getElem? hz2)))
      have rk : RK (.call hh cn z1 z2 ad) := rk_call (by omega) cnl m1 f1 (by
        unfold K6.argsB
        rw [Bool.and_eq_true, List.all_eq_true]
        exact ⟨decide_eq_true (by omega), ga⟩) m2 f2
      have et : upd (upd HA t (.tup [.str "call", .int (hh : Nat), .int (cn : Nat), .str z1, .str z2, .ref p])) l (.lst [.ref t]) t = some (.tup [.str "call", .int (hh : Nat), .int (cn : Nat), .str z1, .str z2, .ref p]) := by
        rw [upd_ne (fun z => by rw [← z, upd_same] at nl; cases nl)]
        exact upd_same
      have ep2 : upd (upd HA t (.tup [.str "call", .int (hh : Nat), .int (cn : Nat), .str z1, .str z2, .ref p])) l (.lst [.ref t]) p = some (.tup (ad.map aV)) := by
        have e1 : upd HA t (.tup [.str "call", .int (hh : Nat), .int (cn : Nat), .str z1, .str z2, .ref p]) p = some (.tup (ad.map aV)) := by rw [upd_ne (ne_of_none ep nt)]; exact ep
        rw [upd_ne (ne_of_none e1 nl)]
        exact e1
      exact q _ _ l [.ref t] [.call hh cn z1 z2 ad] bbB ((bb9.new nt).free l nl) upd_same (.cons ⟨t, rfl, p, et, fun l' e' => by cases e'; exact ep2⟩ .nil) (fun x hx => by rw [List.mem_singleton.mp hx]; exact rk) (rows_call ok hp rk ecn) (Nat.le_of_ble_eq_true rfl) ⟨[], _, rfl, fun x h => (by cases h)⟩
    · refine nxp ⟨Nat.zero_le _, fun D nD => ?_⟩
      have nDb := (Bs.refl bb.box).nb nD
      have c0 := (Bs.refl bb.box).new (o := .lst []) nD
      have eD0 : upd H1 D (.lst []) D = some (.lst []) := upd_same
      have bb2 := bb.trans c0
      have fD : H D = none := bb.free D nD
      clear c0
      generalize upd H1 D (.lst []) = H2 at *
      refine nxp ⟨(by show 4 ≤ sizeLine; decide), fun L9 nL => ?_⟩
      have nLb := bb2.nb nL
      have bb3 := bb2.new (o := .lst [.str "a", .str "b", .str "c", .str "d"]) nL
      have eL : upd H2 L9 (.lst [.str "a", .str "b", .str "c", .str "d"]) L9 = some (.lst [.str "a", .str "b", .str "c", .str "d"]) := upd_same
      have eD3 : upd H2 L9 (.lst [.str "a", .str "b", .str "c", .str "d"]) D = some (.lst []) := by rw [upd_ne (ne_of_none eD0 nL)]; exact eD0
      have nDL : D ≠ L9 := ne_of_none eD0 nL
      generalize upd H2 L9 (.lst [.str "a", .str "b", .str "c", .str "d"]) = H3 at *
      refine ⟨L9, rfl, ⟨_, SqL.of eL⟩, for_list (K := K) (a := L9) (xs := [.str "a", .str "b", .str "c", .str "d"]) (fun i σ H' => ∃ (y9 y10 : Option V) (ts : List Rec) (us : List V) (n' : Nat), σ = [some (.ref b), some (.ref ra), some (.int r0), none, none, none, none, none, some (.ref D), y9, y10] ∧ Bs b d ds H H' n' ∧ H' L9 = some (.lst [.str "a", .str "b", .str "c", .str "d"]) ∧ H' D = some (.lst us) ∧ LsR H' us ts ∧ (∀ x ∈ ts, isTx x = true ∧ RK x) ∧ ts.map nmT ∈ subs i)
        ⟨none, none, [], [], _, rfl, bb3, eL, eD3, .nil, fun x h => (by cases h), by decide⟩ (fun i σ H' _ hI => ?_) (fun i v σ H4 hv hI => ?_) (fun σ H' hI => ?_)⟩
      · obtain ⟨_, _, _, _, _, _, _, e, _⟩ := hI
        exact SqL.of e
      · obtain ⟨y9, y10, ts, us, n', rfl, b4, eL4, eD4, lr, hts, hsub⟩ := hI
        have hv : (nm4.map V.str)[i]? = some v := hv
        rw [List.getElem?_map, Option.map_eq_some_iff] at hv
        obtain ⟨z, hz, rfl⟩ := hv
        have i4 : i < 4 := (List.getElem?_eq_some_iff.mp hz).1
        obtain ⟨nz, nl6⟩ := nm4_ok z (List.mem_of_getElem? hz)
        have hsl := (subs_ok i (by omega) _ hsub).2
        rw [List.length_map] at hsl
        have lu := pairLen lr
        have hz2 : nm4.getD i "" = z := by rw [List.getD_eq_getElem?_getD, hz]; rfl
        have keepS : ts.map nmT ∈ subs (i + 1) := by
          show _ ∈ subs i ++ _
          exact List.mem_append.mpr (.inl hsub)
        have addS : ∀ x, nmT x = z → (ts ++ [x]).map nmT ∈ subs (i + 1) := fun x hx => by
          show _ ∈ subs i ++ (subs i).map fun l => l ++ [nm4.getD i ""]
          refine List.mem_append.mpr (.inr (List.mem_map.mpr ⟨_, hsub, ?_⟩))
          rw [hz2, List.map_append]
          show _ = _ ++ [nmT x]
          rw [hx]
        refine ⟨_, rfl, b, d, ds, n', 6, rfl, b4.box, by decide, fun r1 h2 h3 => ?_⟩
        have b5 := (Bs.refl b4.box).draw
        have eL5 := b5.bx _ _ nLb eL4
        have eD5 := b5.bx _ _ nDb eD4
        have lr5 := lr.keep (tupB b5 b4.box)
        have b6 := b4.trans b5
        clear b5
        generalize upd H4 b (.lst [.ref d, .int ((n' + 1 : Nat) : Int)]) = H5 at *
        have add : ∀ {H6 : Hp} {n6 : Nat} {x : Rec} {t : Addr} {o : HO}, Bs b d ds H H6 n6 → H6 L9 = some (.lst [.str "a", .str "b", .str "c", .str "d"]) → H6 D = some (.lst us) → LsR H6 us ts → RecAt H6 t x → isTx x = true → RK x → nmT x = z → ∀ y10 : Option V,
            ∃ (y9 y10' : Option V) (ts' : List Rec) (us' : List V) (n'' : Nat), [some (.ref b), some (.ref ra), some (.int r0), none, none, none, none, none, some (.ref D), some (.str z), y10] = [some (.ref b), some (.ref ra), some (.int r0), none, none, none, none, none, some (.ref D), y9, y10'] ∧ Bs b d ds H (upd H6 D (.lst (us ++ [.ref t]))) n'' ∧ (upd H6 D (.lst (us ++ [.ref t]))) L9 = some (.lst [.str "a", .str "b", .str "c", .str "d"]) ∧ (upd H6 D (.lst (us ++ [.ref t]))) D = some (.lst us') ∧ LsR (upd H6 D (.lst (us ++ [.ref t]))) us' ts' ∧ (∀ x ∈ ts', isTx x = true ∧ RK x) ∧ ts'.map nmT ∈ subs (i + 1) := fun {H6 n6 x t o} c6 cL cD cl cr cx ck cz y10 => by
          have tup : ∀ q xs, H6 q = some (.tup xs) → upd H6 D (.lst (us ++ [.ref t])) q = some (.tup xs) := fun q xs e => by rw [upd_ne (ne_of e cD (by intro z; cases z))]; exact e
          refine ⟨_, _, ts ++ [x], us ++ [.ref t], n6, rfl, c6.wr hB fD, by rw [upd_ne nDL.symm]; exact cL, upd_same, pairApp (cl.keep tup) (.cons ⟨t, rfl, RecAt.keep tup cr⟩ .nil), fun y hy => ?_, addS x cz⟩
          rcases List.mem_append.mp hy with hy | hy
          · exact hts y hy
          · rw [List.mem_singleton.mp hy]; exact ⟨cx, ck⟩
        refine nxp ⟨_, rfl, rfl, _, rfl, ite2 (fun _ => ?_) (fun _ => ?_)⟩
        · refine ⟨_, rfl, .inl ⟨rfl, _, SqL.of eD5⟩, _, rfl, two_le, fun t nt => ?_⟩
          have b7 := b6.new (o := .tup [.str "remove", .str z]) nt
          have s7 : Same H5 (upd H5 t (.tup [.str "remove", .str z])) := Same.lst (Same.refl _) nt
          have et : upd H5 t (.tup [.str "remove", .str z]) t = some (.tup [.str "remove", .str z]) := upd_same
          generalize upd H5 t (.tup [.str "remove", .str z]) = H6 at *
          exact ⟨D, us, _, rfl, rfl, s7 _ _ eD5, szlt (by omega), add (o := .lst []) b7 (s7 _ _ eL5) (s7 _ _ eD5) (lr5.keep fun q xs e => s7 q _ e) (x := .rem z) ⟨t, et, fun l e => by cases e⟩ rfl (rk_rem nz nl6) rfl _⟩
        · refine ⟨_, rfl, _, _, rfl, rfl, _, rfl, ite2 (fun _ => ?_) (fun _ => ?_)⟩
          · refine ⟨_, rfl, .inl ⟨rfl, _, SqL.of eD5⟩, _, rfl, _, rfl, b, d, ds, _, rfl, b6.box, fun H6 n6 tt c6 ltt ctt => ⟨(by show 3 ≤ sizeLine; decide), fun t nt => ?_⟩⟩
            have b7 := (b6.trans c6).new (o := .tup [.str "text", .str z, .str tt]) nt
            have s7 : Same H6 (upd H6 t (.tup [.str "text", .str z, .str tt])) := Same.lst (Same.refl _) nt
            have et : upd H6 t (.tup [.str "text", .str z, .str tt]) t = some (.tup [.str "text", .str z, .str tt]) := upd_same
            generalize upd H6 t (.tup [.str "text", .str z, .str tt]) = H7 at *
            have eD6 := c6.bx _ _ nDb eD5
            exact ⟨D, us, _, rfl, rfl, s7 _ _ eD6, szlt (by omega), add (o := .lst []) b7 (s7 _ _ (c6.bx _ _ nLb eL5)) (s7 _ _ eD6) ((lr5.keep (tupB c6 b6.box)).keep fun q xs e => s7 q _ e) (x := .txt z tt) ⟨t, et, fun l e => by cases e⟩ rfl (rk_txt nz nl6 ltt ctt) rfl _⟩
          · exact ⟨_, _, ts, us, _, rfl, b6, eL5, eD5, lr5, hts, keepS⟩
      · obtain ⟨y9, y10, ts, us, n', rfl, b4, eL4, eD4, lr, hts, hsub⟩ := hI
        obtain ⟨tw, tl4⟩ := subs_ok 4 (by decide) _ hsub
        rw [List.length_map] at tl4
        have lu := pairLen lr
        refine ⟨_, rfl, _, rfl, D, us, rfl, .inl (SqL.of eD4), two_le, fun t nt => ⟨(by show 1 ≤ sizeLine; decide), fun l1 nl1 => ?_⟩⟩
        have b5 := b4.new (o := .tup [.str "update", .int ((us.length : Nat) : Int)]) nt
        have s5 : Same H' (upd H' t (.tup [.str "update", .int ((us.length : Nat) : Int)])) := Same.lst (Same.refl _) nt
        have et : upd H' t (.tup [.str "update", .int ((us.length : Nat) : Int)]) t = some (.tup [.str "update", .int ((us.length : Nat) : Int)]) := upd_same
        generalize upd H' t (.tup [.str "update", .int ((us.length : Nat) : Int)]) = H5 at *
        have b6 := b5.new (o := .lst [.ref t]) nl1
        have s6 : Same H5 (upd H5 l1 (.lst [.ref t])) := Same.lst (Same.refl _) nl1
        have el1 : upd H5 l1 (.lst [.ref t]) l1 = some (.lst [.ref t]) := upd_same
        generalize upd H5 l1 (.lst [.ref t]) = H6 at *
        have s46 : Same H' H6 := fun z o e => s6 _ _ (s5 _ _ e)
        refine ⟨D, l1, us, [.ref t], rfl, rfl, s46 _ _ eD4, el1, szle (by show us.length + 1 ≤ 10000; omega), fun l nl => ?_⟩
        have b7 := b6.new (o := .lst (us ++ [.ref t])) nl
        have s7 : Same H6 (upd H6 l (.lst (us ++ [.ref t]))) := Same.lst (Same.refl _) nl
        have lr7 : LsR (upd H6 l (.lst (us ++ [.ref t]))) (us ++ [.ref t]) (ts ++ [.upd us.length]) := pairApp (lr.keep fun q xs e => s7 _ _ (s46 _ _ e)) (.cons ⟨t, rfl, t, s7 _ _ (s6 _ _ et), fun l e => by cases e⟩ .nil)
        refine q _ _ l _ (ts ++ [.upd us.length]) b7 (b6.free l nl) upd_same lr7 (fun x hx => ?_) (rows_group ok hp (fun x hx => (hts x hx).1) (fun x hx => (hts x hx).2) (rk_upd (by omega)) (by omega) tw) (by rw [List.length_append]; show ts.length + 1 ≤ 5; omega) ⟨ts, _, rfl, fun x hx => (hts x hx).1⟩
        rcases List.mem_append.mp hx with hx | hx
        · exact (hts x hx).2
        · rw [List.mem_singleton.mp hx]; exact rk_upd (by omega)
end
end K7

set_option maxRecDepth 100000
set_option maxHeartbeats 4000000
/-! schedule_cut; the law's torn writes -/
namespace K5
open PySem hiding Tok code
open PySem.Spec PyProof.Rows GD K1 GS
open L2 hiding rest
abbrev sLTorn8 : Stmt := topS 80
section
variable {P : Program} {w : World} {K : PySem.W.Frag} {mg : Str → Option Value} {base : Heap} {D C PC fI CM : Addr}
def spSched (C D : Addr) : L2.Sp := fun vs H Q E => ∃ (Z : Addr → Prop) (p : Addr) (s : DS) (i : Int) (t : Addr) (tn : List Int), vs = [.ref p, .int i, .ref t] ∧ DA C Z H p s ∧ H t = some (.lst (iv tn)) ∧ tn.length ≤ 1000 ∧
  (i < 0 ∨ 100000 < i → OErr E D H "many") ∧ ∀ n : Nat, i = n → n ≤ 100000 → (okT tn = false → OErr E D H "torn") ∧ (okT tn = true → ∀ H', Kz Z H H' → DA C (grow Z H H') H' p ⟨s.st, s.wa, s.cuts, some (n, tn)⟩ → Q .non H')
theorem scSched : FnScope ["self", "many", "torn"] ["self", "many", "torn"] (defScope mSched) := ⟨rfl, rfl, rfl, by decide +kernel, rfl, by decide +kernel, by decide +kernel⟩
theorem ok_sched {f f1 : Addr} {fd fd1 fdI : FuncData} (F : Fun K "schedule_cut" "Disk.schedule_cut" mSched f fd) (T : Txt K mg) (TD : TxD K mg C) (TS : ∃ t, mg "SCHEDULE_MOST" = some (.int 100000 t)) (TO : TxO K mg D fI)
    (bI : Binds K fdI ["self", "name"] []) (FI : FnOk P w K mg base CX0 1 fI fdI ["self", "name"] (spOInit D))
    (FT : FO P w K mg base (L2.CX P w) 3 "check_torn" ["torn"] (spTornC D) f1 fd1) : FnOk P w K mg base (L2.CX P w) 4 f fd ["self", "many", "torn"] (spSched C D) := by
  have sc := scSched
  obtain ⟨t1, gSCHED⟩ := TS
  refine F.okX sc (fun vs H Q E h => ?_) (fun cdv A outer s H vs Q E hr h => ?_)
  · obtain ⟨Z, p, ds, i, t, tn, rfl, _⟩ := h
    rfl
  · obtain ⟨Z, p, ds, i, t, tn, rfl, da, ht, hl, q1, q2⟩ := h
    have hr1 : Room 2 _ := hr.mono (by decide)
    refine ⟨_, (pss_cons (ps_if (pt_not (pt_chain op_le op_le pe_int (pv 1) (pe_gint rfl gSCHED)))
      (pss_one (ps_raise rfl (takes_of rfl rfl rfl rfl) (pmk_oex TO.oc TO.ini TO.tyI FI hr1 bI .nil pass0 rfl TO.g (pa_cons pe_str pa_nil))))
      pss_nil)
      (pss_cons (ps_expr (pe_call FT.ok hr (by rfl) FT.m FT.kp FT.b .nil passE (pa_cons (pv 2) pa_nil)))
      (pss_one (ps_fld (pv 0) (pe_tup (pa_cons (pv 1) (pa_cons (pe_callTy call_list_of (by rfl) T.blist (by decide +kernel) (pa_cons (pv 2) pa_nil)) pa_nil))) rfl)))), ?_⟩
    refine ⟨_, rfl, _, _, rfl, rfl, _, rfl, ?_⟩
    cases e0 : decide ((0 : Int) ≤ i) with
    | false => exact iteF ⟨_, rfl, iteT (oor_k (Same.refl H) (by decide +kernel) (q1 (.inl (by have := of_decide_eq_false e0; omega))))⟩
    | true =>
    refine iteT ⟨_, _, rfl, rfl, _, rfl, ?_⟩
    cases e1 : decide (i ≤ (100000 : Int)) with
    | false => exact iteT (oor_k (Same.refl H) (by decide +kernel) (q1 (.inr (by have := of_decide_eq_false e1; omega))))
    | true =>
    have e0 := of_decide_eq_true e0
    have e1 := of_decide_eq_true e1
    obtain ⟨m, rfl⟩ : ∃ m : Nat, i = m := ⟨i.toNat, by omega⟩
    obtain ⟨q3, q4⟩ := q2 m rfl (by omega)
    refine iteF ?_
    refine ⟨_, rfl, t, tn, rfl, ht, hl, fun ho H1 s1 => ?_, fun ho => q3 ho⟩
    have da1 := da.sm s1
    obtain ⟨dx, S, W, v, vs, us, h1, h2, h3, h4, h5, h6, h7, z1, z2, z3, z4, n⟩ := da1.ex
    refine ⟨_, rfl, _, rfl, t, _, rfl, .inl (SqL.of (s1 _ _ ht)), fun l nl => ⟨(by show 2 ≤ sizeLine; decide), fun t3 n3 => ?_⟩⟩
    have s2 : Same H1 (upd H1 l (.lst (iv tn))) := Same.lst (Same.refl H1) nl
    have s3 : Same H1 (upd (upd H1 l (.lst (iv tn))) t3 (.tup [.int (m : Nat), .ref l])) := snew s2 n3
    have gt3 : (upd (upd H1 l (.lst (iv tn))) t3 (.tup [.int (m : Nat), .ref l])) t3 = some (.tup [.int (m : Nat), .ref l]) := upd_same
    have gl3 : (upd (upd H1 l (.lst (iv tn))) t3 (.tup [.int (m : Nat), .ref l])) l = some (.lst (iv tn)) := by rw [upd_ne (ne_of_none upd_same n3), upd_same]
    have n30 : H1 t3 = none := sfree s2 n3
    generalize (upd (upd H1 l (.lst (iv tn))) t3 (.tup [.int (m : Nat), .ref l])) = H3 at *
    refine ⟨_, rfl, p, C, dx, _, rfl, s3 _ _ h1, TD.cl, TD.n4, (by show 4 < 1000; decide), ?_⟩
    rw [putF_s]
    have n3p : t3 ≠ p := fun y => by rw [y, h1] at n30; cases n30
    have nlp : l ≠ p := fun y => by rw [y, h1] at nl; cases nl
    have kp : upd H3 p (.ins C dx (dF S W ds.cuts (.ref t3))) p = some (.ins C dx (dF S W ds.cuts (.ref t3))) := upd_same
    have kt : upd H3 p (.ins C dx (dF S W ds.cuts (.ref t3))) t3 = some (.tup [.int (m : Nat), .ref l]) := by rw [upd_ne n3p]; exact gt3
    have kl : upd H3 p (.ins C dx (dF S W ds.cuts (.ref t3))) l = some (.lst (iv tn)) := by rw [upd_ne nlp]; exact gl3
    have up : ∀ q o, q ≠ p → H1 q = some o → upd H3 p (.ins C dx (dF S W ds.cuts (.ref t3))) q = some o := fun q o a e => by
      rw [upd_ne a]
      exact s3 q o e
    generalize upd H3 p (.ins C dx (dF S W ds.cuts (.ref t3))) = H9 at *
    have hn : ∀ q, H1 q ≠ none → H9 q ≠ none := fun q a => by
      by_cases e1 : q = p
      · rw [e1, kp]; intro z; cases z
      · cases e : H1 q with
        | none => exact absurd e a
        | some o => rw [up q o e1 e]; intro z; cases z
    have gz : ∀ q, Z q → grow Z H1 H9 q := fun q z => ⟨.inl z, hn _ (da1.al _ z)⟩
    have nlS : l ≠ S := fun y => by rw [y, h3] at nl; cases nl
    have nlW : l ≠ W := fun y => by rw [y, h5] at nl; cases nl
    refine q4 ho H9 (fun q o z e => up q o (fun y => z (y ▸ z1)) (s1 q o e)) (DA.pre s1 ⟨⟨dx, S, W, .ref t3, vs, us, kp, up _ _ (ne_of h2 h1 (by intro z; cases z)) h2, up _ _ (ne_of h3 h1 (by intro z; cases z)) h3, pair_imp h4 fun a b => BkR.up fun q b z lb e => ⟨gz q z, up _ _ (ne_of e h1 (by intro z; cases z)) e⟩,
      up _ _ (ne_of h5 h1 (by intro z; cases z)) h5, pair_imp h6 fun a b => WtR.up (fun q b z lb e => ⟨gz q z, up _ _ (ne_of e h1 (by intro z; cases z)) e⟩) (fun q xs z e => ⟨gz q z, up _ _ (ne_of e h1 (by intro z; cases z)) e⟩),
      ⟨t3, l, rfl, ⟨.inr n30, by rw [kt]; intro z; cases z⟩, kt, ⟨.inr nl, by rw [kl]; intro z; cases z⟩, nlS, nlW, kl, fun x hx => ?_⟩, gz _ z1, gz _ z2, gz _ z3, gz _ z4, n⟩, da.lo, da.hi, da.pl, fun q z => z.2⟩)
    have := List.all_eq_true.mp ho x hx
    unfold okc at this
    rw [Bool.and_eq_true] at this
    exact ⟨of_decide_eq_true this.1, of_decide_eq_true this.2⟩
def spLTorn : L2.Sp := fun vs H Q _ => ∃ (b d : Addr) (dg : List Int) (n m : Nat), vs = [.ref b, .int (m : Nat)] ∧ Box H b d dg n ∧ m ≤ 1000 ∧
  ∀ H' q tn n', Bs b d dg H H' n' → H q = none → H' q = some (.lst (iv tn)) → okT tn = true → tn.length ≤ 1000 → Q (.ref q) H'
theorem scLTorn : FnScope ["box", "many", "kind", "k"] ["box", "many"] (defScope sLTorn8) := ⟨rfl, rfl, rfl, by decide +kernel, rfl, by decide +kernel, by decide +kernel⟩
theorem ok_ltorn {f f1 : Addr} {fd fd1 : FuncData} (F : Fun K "_law_torn" "_law_torn" sLTorn8 f fd) (T : Txt K mg)
    (FD : FO P w K mg base CX0 1 "_law_draw" ["box", "many"] spDraw f1 fd1) : FnOk P w K mg base CX0 2 f fd ["box", "many"] spLTorn := by
  have sc := scLTorn
  refine F.ok sc (fun vs H Q E h => ?_) (fun cdv A outer s H vs Q E hr h => ?_)
  · obtain ⟨b, d, dg, n, m, rfl, _⟩ := h
    rfl
  · obtain ⟨b, d, dg, n, m, rfl, hB, hm, q⟩ := h
    refine ⟨_, (pss_cons (ps_set (i := 2) sc.nd rfl (Or.inl rfl) (pe_call FD.ok hr (by rfl) FD.m FD.kp FD.b .nil pass0 (pa_cons (pv 0) (pa_cons pe_int pa_nil))))
      (pss_cons (ps_if (pt_cmpR op_eq (pv 2) pe_int (nomark _))
      (pss_one (ps_ret (pe_lst pa_nil)))
      pss_nil)
      (pss_cons (ps_if (pt_cmpR op_eq (pv 2) pe_int (nomark _))
      (pss_one (ps_ret (pe_op op_rep (pe_lst (pa_cons pe_int pa_nil)) (pv 1))))
      pss_nil)
      (pss_cons (ps_if (pt_cmpR op_eq (pv 2) pe_int (nomark _))
      (pss_one (ps_ret (pe_lc (own := [("k", 3)]) rfl sc.nd (pi_range1 rfl T.range (pa_cons (pv 1) pa_nil)) (blkOk_by (own := [("k", 3)]) (N := ["box", "many", "kind", "k"]) (sc := defScope sLTorn8) (by decide +kernel)) (fun _ _ _ _ _ => (pg_name (i := 3) sc.nd rfl (Or.inl rfl))) (fun _ _ _ _ _ => pts_nil) (fun _ _ _ _ _ => (pe_op op_mul pe_int (pe_call FD.ok hr (by rfl) FD.m FD.kp FD.b .nil pass0 (pa_cons (pv 0) (pa_cons pe_int pa_nil))))))))
      pss_nil)
      (pss_one (ps_ret (pe_lc (own := [("k", 3)]) rfl sc.nd (pi_range1 rfl T.range (pa_cons (pv 1) pa_nil)) (blkOk_by (own := [("k", 3)]) (N := ["box", "many", "kind", "k"]) (sc := defScope sLTorn8) (by decide +kernel)) (fun _ _ _ _ _ => (pg_name (i := 3) sc.nd rfl (Or.inl rfl))) (fun _ _ _ _ _ => pts_nil) (fun _ _ _ _ _ => (pe_call FD.ok hr (by rfl) FD.m FD.kp FD.b .nil pass0 (pa_cons (pv 0) (pa_cons pe_int pa_nil))))))))))), ?_⟩
    have v0 := Bs.refl hB
    refine ⟨_, rfl, b, d, dg, n, 4, rfl, hB, by decide, fun r h0 h1 => ?_⟩
    have v1 := v0.draw
    refine ⟨_, rfl, rfl, _, rfl, ite2 (fun _ => ?_) (fun _ => ?_)⟩
    · refine ⟨by decide, fun l nl => q _ l [] _ (v1.new nl) (v1.free l nl) upd_same rfl (by decide)⟩
    refine ⟨_, rfl, rfl, _, rfl, ite2 (fun _ => ?_) (fun _ => ?_)⟩
    · refine ⟨(by show 1 ≤ sizeLine; decide), fun z nz => ?_⟩
      have v2 := v1.new (o := .lst [V.int 32]) nz
      refine ⟨_, rfl, z, _, _, rfl, rfl, upd_same, by omega, by omega, ?_, fun l nl => ?_⟩
      · show 1 * ((m : Nat) : Int).toNat ≤ sizeLine
        rw [Nat.one_mul, Int.toNat_natCast]
        exact szle (by omega)
      · rw [Int.toNat_natCast, rep_flat, rep_iv]
        refine q _ l (List.replicate m 32) _ (v2.new nl) (v2.free l nl) upd_same (okT_rep m) (by rw [List.length_replicate]; exact hm)
    have comp : ∀ D, (upd H b (.lst [.ref d, .int ((n + 1 : Nat) : Int)])) D = none → Bs b d dg H (upd (upd H b (.lst [.ref d, .int ((n + 1 : Nat) : Int)])) D (.lst [])) (n + 1) := fun D nD => v1.new nD
    refine ⟨_, rfl, rfl, _, rfl, ite2 (fun _ => ?_) (fun _ => ?_)⟩
    · refine ⟨_, rfl, _, rfl, by omega, by omega, fun D nD => ?_⟩
      have fD := v1.free D nD
      have nDb := v1.nb nD
      refine lc_range (lo := 0) (n := m) (fun j H' => ∃ n' tn, Bs b d dg H H' n' ∧ H' D = some (.lst (iv tn)) ∧ tn.length = j ∧ okT tn = true) ⟨_, [], comp D nD, upd_same, rfl, rfl⟩ (fun j H1 hj ⟨n', tn, v2, e, l, o⟩ => ?_) (fun H1 ⟨n', tn, v2, e, l, o⟩ => ?_)
      · refine ⟨rfl, _, rfl, b, d, dg, _, 2, rfl, v2.box, by decide, fun r r0 r1 => ?_⟩
        refine ⟨_, _, rfl, rfl, .inl (by decide), iv tn, by rw [upd_ne nDb]; exact e, by rw [iv_len, l]; exact szlt (by omega), _, tn ++ [32 * r], v2.draw.wr hB fD, by rw [upd_same, iv_snoc], by rw [List.length_append, l]; rfl, okT_snoc o (by omega) (by omega)⟩
      · exact q _ D tn _ v2 fD e o (by omega)
    · refine ⟨_, rfl, _, rfl, by omega, by omega, fun D nD => ?_⟩
      have fD := v1.free D nD
      have nDb := v1.nb nD
      refine lc_range (lo := 0) (n := m) (fun j H' => ∃ n' tn, Bs b d dg H H' n' ∧ H' D = some (.lst (iv tn)) ∧ tn.length = j ∧ okT tn = true) ⟨_, [], comp D nD, upd_same, rfl, rfl⟩ (fun j H1 hj ⟨n', tn, v2, e, l, o⟩ => ?_) (fun H1 ⟨n', tn, v2, e, l, o⟩ => ?_)
      · refine ⟨rfl, _, rfl, b, d, dg, _, 33, rfl, v2.box, by decide, fun r r0 r1 => ?_⟩
        refine ⟨iv tn, by rw [upd_ne nDb]; exact e, by rw [iv_len, l]; exact szlt (by omega), _, tn ++ [r], v2.draw.wr hB fD, by rw [upd_same, iv_snoc], by rw [List.length_append, l]; rfl, okT_snoc o (by omega) (by omega)⟩
      · exact q _ D tn _ v2 fD e o (by omega)
end
end K5

set_option maxRecDepth 100000
set_option maxHeartbeats 4000000
/-! the law's calls -/
namespace K7
open PySem hiding Tok code
open PySem.Spec PyProof.Rows GD K1 GS
open L2 hiding rest
open K6 (Rec RecAt RecSm wR spWRec recV recA T2 ST recD RecOK AV aV)
open K4 (Blks BlkV encR iv decO DecV)
open K5 (DS DA Kz grow rdM stepS tnS cutM flM MO TxD TxP TxO passE z32 rLenK call_lenK)
abbrev sAskR : Stmt := topS 85
abbrev sAsk : Stmt := topS 86
abbrev sTry : Stmt := topS 87
theorem passes_len {X : Cx} {W : WX} {m : Nat} (tk : Takes X W) (hN : X.N.length = m) : ∀ (pins : List (Addr × Obj)) (σ : L2.St) (H : Hp) (s : Shared) (e : Value) (s' : Shared), Inv X pins σ H s →
    L2.CX X.prog X.w X.stack H s (fun cls d H => ∀ σ : L2.St, σ.length = m → W cls d σ H) e s' → X.xe e s' :=
  fun _ σ _ _ e s' I c => tk e s' (XE.of_call I (fun cls d H' h => h σ (I.len.trans hN)) c)
structure TxQ (K : PySem.W.Frag) (LF NO PC : Addr) : Prop where
  ff : PySem.W.exmOne K (.ref LF) (.ref LF) = some true
  nf : PySem.W.exmOne K (.ref NO) (.ref LF) = some false
  nn : PySem.W.exmOne K (.ref NO) (.ref NO) = some true
  pf : PySem.W.exmOne K (.ref PC) (.ref LF) = some false
  pn : PySem.W.exmOne K (.ref PC) (.ref NO) = some false
  pp : PySem.W.exmOne K (.ref PC) (.ref PC) = some true
section
variable {P : Program} {w : World} {K : PySem.W.Frag} {mg : Str → Option Value} {base : Heap} {C CL NO LF PC D PN PV NK : Addr}
theorem mono_app {vs : List V} {H : Hp} {Q : VK} {E E' : XK} (h : spApp C CL NO LF PC PN PV vs H Q E) (he : ∀ c d H, E c d H → E' c d H) : spApp C CL NO LF PC PN PV vs H Q E' := by
  obtain ⟨Z, lp, p, R, ra, s, ws, rows, xs, u, c, e, a1, a2, a3, a4, a5, a6, a7, a8, a9, b1, b2, b3, b4, b5, b6, b7, q1, q2⟩ := h
  refine ⟨Z, lp, p, R, ra, s, ws, rows, xs, u, c, e, a1, a2, a3, a4, a5, a6, a7, a8, a9, b1, b2, b3, b4, b5, b6, b7, fun z => he _ _ _ (q1 z), fun z => ?_⟩
  obtain ⟨q3, q4⟩ := q2 z
  exact ⟨fun z H' s => he _ _ _ (q3 z H' s), fun z => ⟨(q4 z).1, fun s' H' Z' h dl f => he _ _ _ ((q4 z).2 s' H' Z' h dl f)⟩⟩
theorem mono_sync {vs : List V} {H : Hp} {Q : VK} {E E' : XK} (h : spSync C CL NO PC PN PV vs H Q E) (he : ∀ c d H, E c d H → E' c d H) : spSync C CL NO PC PN PV vs H Q E' := by
  obtain ⟨Z, lp, p, R, dx, s, u, c, e, a1, a2, a3, a4, q1, q2⟩ := h
  exact ⟨Z, lp, p, R, dx, s, u, c, e, a1, a2, a3, a4, fun z => he _ _ _ (q1 z), fun z => ⟨(q2 z).1, fun s' H' Z' h dl f => he _ _ _ ((q2 z).2 s' H' Z' h dl f)⟩⟩
def spAskR (C CL NO LF PC PN PV : Addr) : L2.Sp := fun vs H Q E => ∃ (lp ra dx p R : Addr) (i : Int) (u c : Nat), vs = [.ref lp, .int i, .ref ra] ∧ H lp = some (.ins CL dx (lF p R u c)) ∧
  ((i = 0 ∧ spApp C CL NO LF PC PN PV [.ref lp, .ref ra] H Q E) ∨ (i ≠ 0 ∧ spSync C CL NO PC PN PV [.ref lp] H Q E))
theorem scAskR : FnScope ["log", "which", "rows"] ["log", "which", "rows"] (defScope sAskR) := ⟨rfl, rfl, rfl, by decide +kernel, rfl, by decide +kernel, by decide +kernel⟩
theorem ok_askR {f m1 m2 : Addr} {fd md1 md2 : FuncData} (F : Fun K "_law_ask_raw" "_law_ask_raw" sAskR f fd) (TL : TxL K mg CL)
    (MA : MO P w K mg base (L2.CX P w) 7 CL "append" ["self", "rows"] (spApp C CL NO LF PC PN PV) m1 md1) (MY : MO P w K mg base (L2.CX P w) 7 CL "sync" ["self"] (spSync C CL NO PC PN PV) m2 md2) : FnOk P w K mg base (L2.CX P w) 8 f fd ["log", "which", "rows"] (spAskR C CL NO LF PC PN PV) := by
  have sc := scAskR
  refine F.okX sc (fun vs H Q E h => ?_) (fun cdv A outer s H vs Q E hr h => ?_)
  · obtain ⟨lp, ra, dx, p, R, i, u, c, rfl, _⟩ := h
    rfl
  · obtain ⟨lp, ra, dx, p, R, i, u, c, rfl, h1, cs⟩ := h
    refine ⟨_, (pss_cons (ps_if (pt_cmpR op_eq (pv 1) pe_int (nomark _))
      (pss_one (ps_ret (pe_meth (pv 0) TL.cl MA.mt MA.ok hr MA.bi .nil passE (pa_cons (pv 2) pa_nil))))
      pss_nil)
      (pss_one (ps_ret (pe_meth0 (pv 0) TL.cl MY.mt MY.ok hr MY.bi .nil passE)))), ?_⟩
    rcases cs with ⟨e, c⟩ | ⟨e, c⟩
    · subst e
      refine ⟨_, rfl, rfl, _, rfl, K5.iteY (decide_eq_true rfl) ?_⟩
      exact ⟨_, rfl, lp, dx, _, rfl, h1, lF_no (by decide +kernel), _, rfl, c⟩
    · refine ⟨_, rfl, rfl, _, rfl, K5.iteE (by exact decide_eq_false fun z => e (by injection z)) ?_⟩
      exact ⟨_, rfl, lp, dx, _, rfl, h1, lF_no (by decide +kernel), c⟩
/-- how the errors are told -/
def told3 (Q : VK) (z : Str) (H : Hp) : Prop := ∀ H' q, Same H H' → H' q = some (.tup [.str "refused", .str z]) → Q (.ref q) H'
def E3 (LF NO PC : Addr) (Q : VK) : XK := fun c d H => (c = .ref LF ∧ d = none ∧ told3 Q "full" H) ∨ (c = .ref NO ∧ d = none ∧ told3 Q "dead" H) ∨ (c = .ref PC ∧ d = none ∧ told3 Q "cut" H)
def spAsk (C CL NO LF PC PN PV : Addr) : L2.Sp := fun vs H Q _ => spAskR C CL NO LF PC PN PV vs H Q (E3 LF NO PC Q)
theorem scAsk : FnScope ["log", "which", "rows"] ["log", "which", "rows"] (defScope sAsk) := ⟨rfl, rfl, rfl, by decide +kernel, rfl, by decide +kernel, by decide +kernel⟩
theorem ok_ask {f f1 : Addr} {fd fd1 : FuncData} (F : Fun K "_law_ask" "_law_ask" sAsk f fd) (TF : TxP K mg "LogFull" LF) (TN : TxP K mg "NotOpen" NO) (TP : TxP K mg "PowerCut" PC) (TQ : TxQ K LF NO PC)
    (RAW : K5.FO P w K mg base (L2.CX P w) 8 "_law_ask_raw" ["log", "which", "rows"] (spAskR C CL NO LF PC PN PV) f1 fd1) : FnOk P w K mg base CX0 9 f fd ["log", "which", "rows"] (spAsk C CL NO LF PC PN PV) := by
  have sc := scAsk
  refine F.ok sc (fun vs H Q E h => ?_) (fun cdv A outer s H vs Q E hr h => ?_)
  · obtain ⟨lp, ra, dx, p, R, i, u, c, rfl, _⟩ := h
    rfl
  · obtain ⟨lp, ra, dx, p, R, i, u, c, rfl, h1, cs⟩ := h
    refine ⟨_, (pss_one (ps_tryA (tb := fun W => tRet (tCall (spAskR C CL NO LF PC PN PV) [] (fun cls d H => ∀ σ : L2.St, σ.length = 3 → W cls d σ H) (tCons (tVar 0) (tCons (tVar 1) (tCons (tVar 2) tNil))))) (Wout := fun _ _ _ _ => False) rfl rfl sc.nd takes0
        (fun W pn xe tk po => pss_one (ps_ret (pe_call (E := fun cls d H => ∀ σ : L2.St, σ.length = 3 → W cls d σ H) RAW.ok hr (by rfl) RAW.m RAW.kp RAW.b .nil (passes_len tk rfl) (pa_cons (pv 0) (pa_cons (pv 1) (pa_cons (pv 2) pa_nil))))))
        (Clauses.bare ⟨rfl, by decide, .inl TF.g⟩ (fun a oe cls d pn zc hf => pss_one (ps_ret (pe_tup (pa_cons pe_str (pa_cons pe_str pa_nil)))))
          (Clauses.bare ⟨rfl, by decide, .inl TN.g⟩ (fun a oe cls d pn zc hf => pss_one (ps_ret (pe_tup (pa_cons pe_str (pa_cons pe_str pa_nil)))))
            (Clauses.bare ⟨rfl, by decide, .inl TP.g⟩ (fun a oe cls d pn zc hf => pss_one (ps_ret (pe_tup (pa_cons pe_str (pa_cons pe_str pa_nil))))) .nil))))), ?_⟩
    refine ⟨_, rfl, _, rfl, _, rfl, lp, ra, dx, p, R, i, u, c, rfl, h1, ?_⟩
    have key : ∀ cls d H1, E3 LF NO PC Q cls d H1 → ∀ σ : L2.St, σ.length = 3 → wA K (fun _ _ _ _ => False) { nx := fun x H' => Q V.non H', rt := Q }
        [(Value.ref LF, none, fun _ _ _ => tRet (tTup (tCons (tC (V.str "refused")) (tCons (tC (V.str "full")) tNil)))), (Value.ref NO, none, fun _ _ _ => tRet (tTup (tCons (tC (V.str "refused")) (tCons (tC (V.str "dead")) tNil)))), (Value.ref PC, none, fun _ _ _ => tRet (tTup (tCons (tC (V.str "refused")) (tCons (tC (V.str "cut")) tNil))))] cls d σ H1 := fun cls d H1 h σ hσ => by
      match σ, hσ with
      | [_, _, _], _ =>
        rcases h with ⟨rfl, rfl, q⟩ | ⟨rfl, rfl, q⟩ | ⟨rfl, rfl, q⟩
        · exact ⟨true, TQ.ff, fun _ a0 na => ⟨two_le, fun t nt => q _ t (K5.snew (Same.refl _) nt) upd_same⟩, fun z => Bool.noConfusion z⟩
        · exact ⟨false, TQ.nf, fun z => Bool.noConfusion z, fun _ => ⟨true, TQ.nn, fun _ a0 na => ⟨two_le, fun t nt => q _ t (K5.snew (Same.refl _) nt) upd_same⟩, fun z => Bool.noConfusion z⟩⟩
        · exact ⟨false, TQ.pf, fun z => Bool.noConfusion z, fun _ => ⟨false, TQ.pn, fun z => Bool.noConfusion z, fun _ => ⟨true, TQ.pp, fun _ a0 na => ⟨two_le, fun t nt => q _ t (K5.snew (Same.refl _) nt) upd_same⟩, fun z => Bool.noConfusion z⟩⟩⟩
    rcases cs with ⟨e, c⟩ | ⟨e, c⟩
    · exact .inl ⟨e, mono_app c key⟩
    · exact .inr ⟨e, mono_sync c key⟩
theorem tnil_go {σ : L2.St} {H : Hp} {Q : List V → Hp → Prop} (h : Q [] H) : tNil σ H Q := h
/-- an opening that may be cut -/
def spTry (C CL PC NK PN PV : Addr) : L2.Sp := fun vs H Q _ => spOpen C CL PC NK PN PV vs H Q (fun c d H => c = .ref PC ∧ d = none ∧ Q .non H)
theorem scTry : FnScope ["disk"] ["disk"] (defScope sTry) := ⟨rfl, rfl, rfl, by decide +kernel, rfl, by decide +kernel, by decide +kernel⟩
theorem mono_open {vs : List V} {H : Hp} {Q : VK} {E E' : XK} (h : spOpen C CL PC NK PN PV vs H Q E) (he : ∀ c d H, E c d H → E' c d H) : spOpen C CL PC NK PN PV vs H Q E' := by
  obtain ⟨Z, p, s, e, a1, a2, a3, a4, q1, q2⟩ := h
  exact ⟨Z, p, s, e, a1, a2, a3, a4, fun z H' s => he _ _ _ (q1 z H' s), fun z => ⟨(q2 z).1, fun s' H' Z' h dl f => he _ _ _ ((q2 z).2 s' H' Z' h dl f)⟩⟩
theorem ok_try {f f1 : Addr} {fd fd1 : FuncData} (F : Fun K "_law_try" "_law_try" sTry f fd) (TP : TxP K mg "PowerCut" PC) (pp : PySem.W.exmOne K (.ref PC) (.ref PC) = some true)
    (FO : K5.FO P w K mg base (L2.CX P w) 12 "open_log" ["disk"] (spOpen C CL PC NK PN PV) f1 fd1) : FnOk P w K mg base CX0 13 f fd ["disk"] (spTry C CL PC NK PN PV) := by
  have sc := scTry
  refine F.ok sc (fun vs H Q E h => ?_) (fun cdv A outer s H vs Q E hr h => ?_)
  · obtain ⟨Z, p, s, rfl, _⟩ := h
    rfl
  · have h0 := h
    obtain ⟨Z, p, s, rfl, _⟩ := h0
    refine ⟨_, (pss_one (ps_tryA (tb := fun W => tRet (tCall (spOpen C CL PC NK PN PV) [] (fun cls d H => ∀ σ : L2.St, σ.length = 1 → W cls d σ H) (tCons (tVar 0) tNil))) (Wout := fun _ _ _ _ => False) rfl rfl sc.nd takes0
        (fun W pn xe tk po => pss_one (ps_ret (pe_call (E := fun cls d H => ∀ σ : L2.St, σ.length = 1 → W cls d σ H) FO.ok hr (by rfl) FO.m FO.kp FO.b .nil (passes_len tk rfl) (pa_cons (pv 0) pa_nil))))
        (Clauses.bare ⟨rfl, by decide, .inl TP.g⟩ (fun a oe cls d pn zc hf => pss_one (ps_ret pe_non)) .nil))), ?_⟩
    refine ⟨_, rfl, tnil_go (mono_open h fun cls d H1 ⟨ec, ed, q⟩ σ hσ => ?_)⟩
    subst ec
    subst ed
    match σ, hσ with
    | [_], _ => exact ⟨true, pp, fun _ a0 na => q, fun z => Bool.noConfusion z⟩
end
end K7

set_option maxRecDepth 100000
set_option maxHeartbeats 4000000
/-! openings that may be cut -/
namespace K7
open PySem hiding Tok code
open PySem.Spec PyProof.Rows GD K1 GS
open L2 hiding rest
open K6 (Rec RecAt RecSm wR spWRec recV recA T2 ST recD RecOK AV aV)
open K4 (Blks BlkV encR iv decO DecV)
open K5 (DS DA Kz grow rdM stepS tnS cutM flM MO TxD TxP TxO passE z32 rLenK call_lenK)
abbrev sReop : Stmt := topS 88
theorem DL.bs {C PN PV : Addr} {Z : Addr → Prop} {H H' : Hp} {p b d : Addr} {s : DS} {dg : List Int} {n n0 : Nat} (h : DL C PN PV Z H p s) (y : Bs b d dg H H' n) (x : Box H b d dg n0) (nb : ¬ Z b) : DL C PN PV Z H' p s := by
  have key : ∀ q o, Z q → H q = some o → H' q = some o := fun q o z e => y.bx q o (fun w => nb (by rw [← w]; exact z)) e
  have tab : ∀ P, GxR.TabG H P → GxR.TabG H' P := fun P ⟨ps, e, r⟩ => ⟨ps, y.bx P _ (ne_of e x.1 (by intro z; cases z)) e, r⟩
  exact ⟨h.da.same key, fun q z => let ⟨o, e, ok⟩ := h.nt q z; ⟨o, key q o z e, ok⟩, ⟨tab _ h.t2.n, tab _ h.t2.v⟩⟩
def FrB (b : Addr) (Z : Addr → Prop) (H : Hp) (Z' : Addr → Prop) (H' : Hp) : Prop := ∀ q o, q ≠ b → ¬ Z q → (∀ ps, o ≠ .tbl ps) → H q = some o → H' q = some o ∧ ¬ Z' q
theorem FrB.refl (b : Addr) (Z : Addr → Prop) (H : Hp) : FrB b Z H Z H := fun _ _ _ z _ e => ⟨e, z⟩
theorem FrB.fr {b : Addr} {Z Z1 Z2 : Addr → Prop} {H H1 H2 : Hp} (a : FrB b Z H Z1 H1) (f : Fr Z1 H1 Z2 H2) : FrB b Z H Z2 H2 := fun q o nb z n e => f q o (a q o nb z n e).2 n (a q o nb z n e).1
theorem FrB.bs {b d : Addr} {dg : List Int} {n : Nat} {Z Z1 : Addr → Prop} {H H1 H2 : Hp} (a : FrB b Z H Z1 H1) (y : Bs b d dg H1 H2 n) : FrB b Z H Z1 H2 := fun q o nb z nt e => ⟨y.bx q o nb (a q o nb z nt e).1, (a q o nb z nt e).2⟩
structure R0 (C PN PV b d p : Addr) (dg : List Int) (size : Nat) (Z0 : Addr → Prop) (H0 : Hp) (Z : Addr → Prop) (H : Hp) (s : DS) (rows : List Rec) (y n : Nat) : Prop where
  box : Box H b d dg n
  zb : ¬ Z b
  zd : ¬ Z d
  dl : DL C PN PV Z H p s
  fr : FrB b Z0 H0 Z H
  part : Part s rows y
  st : s.st.length = size
  tn : (tnS s).length ≤ 1000
section
variable {C PN PV b d p : Addr} {dg : List Int} {size n n' : Nat} {Z0 Z Z' : Addr → Prop} {H0 H H' : Hp} {s s' : DS} {rows : List Rec} {y : Nat}
theorem R0.bs (h : R0 C PN PV b d p dg size Z0 H0 Z H s rows y n) (x : Bs b d dg H H' n') : R0 C PN PV b d p dg size Z0 H0 Z H' s rows y n' :=
  { h with box := x.box, dl := h.dl.bs x h.box h.zb, fr := h.fr.bs x }
theorem R0.disk (h : R0 C PN PV b d p dg size Z0 H0 Z H s rows y n) (dl : DL C PN PV Z' H' p s') (f : Fr Z H Z' H') (pt : Part s' rows y) (st : s'.st.length = s.st.length) (tn : (tnS s').length ≤ 1000) : R0 C PN PV b d p dg size Z0 H0 Z' H' s' rows y n := by
  have nt : ∀ {xs : List V}, ∀ ps, (HO.lst xs) ≠ .tbl ps := fun ps z => by cases z
  have fb := f b _ h.zb nt h.box.1
  have fd := f d _ h.zd nt h.box.2.1
  exact ⟨⟨fb.1, fd.1, h.box.2.2⟩, fb.2, fd.2, dl, h.fr.fr f, pt, st.trans h.st, tn⟩
end
theorem Part.sc {s s' : DS} {rows : List Rec} {y : Nat} (h : Part s rows y) (e1 : s'.st = s.st) (e2 : s'.wa = s.wa) : Part s' rows y :=
  ⟨by rw [e1]; exact h.len, by rw [e2]; exact h.wa, fun i hi => by rw [e1] at hi ⊢; exact h.tn i hi, fun i hi => by rw [e1] at hi ⊢; exact h.ex i hi⟩
section
variable {P : Program} {w : World} {K : PySem.W.Frag} {mg : Str → Option Value} {base : Heap} {C CL NO LF PC D PN PV NK : Addr}
/-- what an opening leaves -/
def OkR (C CL PN PV b d p : Addr) (dg : List Int) (size : Nat) (Z0 : Addr → Prop) (H0 : Hp) (rows : List Rec) (E : List Nat) (y : Nat) (Q : VK) : Prop :=
  ∀ H' n' Z' s' lp R e, e ∈ E → y ≤ e → Box H' b d dg n' → ¬ Z' b → ¬ Z' d → DL C PN PV Z' H' p s' → FrB b Z0 H0 Z' H' → LG CL H' lp p R (rows.take e) (lenM rows e) s'.cuts → ¬ Z' lp → ¬ Z' R → lp ≠ R →
    (∀ q o, ¬ Z0 q → (∀ ps, o ≠ .tbl ps) → H0 q = some o → q ≠ lp ∧ q ≠ R) → Pre s' (rows.take e) e → Holds s' (rows.take e) → s'.wa = [] → s'.st.length = size → (tnS s').length ≤ 1000 → Q (.ref lp) H'
theorem open_cut {b d p : Addr} {dg : List Int} {size n n0 : Nat} {Z0 Z : Addr → Prop} {H0 H : Hp} {s : DS} {rows : List Rec} {E : List Nat} {y : Nat} {Q : VK} {X : XK} (h : R0 C PN PV b d p dg size Z0 H0 Z H s rows y n) (eg : EG rows E) (hy : y ∈ E) (b0 : Box H0 b d dg n0) (zb0 : ¬ Z0 b)
    (q : OkR C CL PN PV b d p dg size Z0 H0 rows E y Q) (e : ∀ s' H' Z', clM s (usM s) = .inl s' → R0 C PN PV b d p dg size Z0 H0 Z' H' s' rows y n → s'.sc = none → X (.ref PC) none H') : spOpen C CL PC NK PN PV [.ref p] H Q X := by
  obtain ⟨w, hw, yw, ne, hrow, hus, hx⟩ := open_part h.part eg hy
  obtain ⟨w1, w2, w3⟩ := eg.ok w hw
  have rl := eg.rows
  have hl := h.part.len
  have bl := blkL_ge 0 rows
  have dhi := h.dl.da.hi
  refine ⟨Z, p, s, rfl, h.dl, h.part.h32 (fun x hx => rl.k x hx) (by omega), by rw [h.part.wa]; exact Nat.zero_le _, h.tn, fun z => absurd z ne, fun _ => ⟨fun s2 H' Z' lp R h2 dl2 f2 lg2 zl zr lr fresh _ _ => ?_, fun s2 H' Z' h2 dl2 f2 => ?_⟩⟩
  · rw [hus] at h2
    obtain ⟨c1, c2, c3, c4, c5, c6⟩ := clM_inr h.part w1 hx h2
    rw [hrow, hus] at lg2
    have nt : ∀ {xs : List V}, ∀ ps, (HO.lst xs) ≠ .tbl ps := fun ps z => by cases z
    have fb := f2 b _ h.zb nt h.box.1
    have fd := f2 d _ h.zd nt h.box.2.1
    refine q H' n Z' s2 lp R w hw yw ⟨fb.1, fd.1, h.box.2.2⟩ fb.2 fd.2 dl2 (h.fr.fr f2) lg2 zl zr lr (fun q o z n' e' => ?_) c1 c2 c3 (c4.trans h.st) (Nat.le_trans c6 h.tn)
    by_cases zb : q = b
    · subst zb
      exact fresh _ _ h.zb nt h.box.1
    · obtain ⟨g1, g2⟩ := h.fr q o zb z n' e'
      exact fresh q o g2 n' g1
  · have h3 := h2
    rw [hus] at h2
    obtain ⟨c1, c2, c3⟩ := clM_inl h.part yw h2
    exact e s2 H' Z' h3 (h.disk dl2 f2 c1 c2 (by unfold tnS; rw [c3]; exact Nat.zero_le _)) c3
theorem far_no {s s' : DS} {n : Nat} {tn : List Int} (h : s.sc = some (100000, tn)) (hl : s.st.length ≤ 400) : clM s n ≠ .inl s' := by
  unfold clM
  have e := wrM_far (zs n s.st.length) s 100000 tn h (by rw [zs_len]; omega)
  rw [e]
  obtain ⟨k, hk⟩ : ∃ k, 100000 - (zs n s.st.length).length = k + 1 := ⟨100000 - (zs n s.st.length).length - 1, by rw [zs_len]; omega⟩
  show fluM _ ≠ _
  rw [fluM_far (m := k) (tn := tn) (by show some (100000 - (zs n s.st.length).length, tn) = _; rw [hk])]
  intro z
  cases z
def spReop (C CL PN PV : Addr) : L2.Sp := fun vs H Q _ => ∃ (Z : Addr → Prop) (b d p : Addr) (dg : List Int) (n : Nat) (s : DS) (rows : List Rec) (E : List Nat) (y : Nat), vs = [.ref b, .ref p] ∧ R0 C PN PV b d p dg s.st.length Z H Z H s rows y n ∧ EG rows E ∧ y ∈ E ∧ s.st.length ≤ 400 ∧
  OkR C CL PN PV b d p dg s.st.length Z H rows E y Q
theorem scReop : FnScope ["box", "disk", "turn", "log"] ["box", "disk"] (defScope sReop) := ⟨rfl, rfl, rfl, by decide +kernel, rfl, by decide +kernel, by decide +kernel⟩
theorem ok_reop {f f1 f2 f3 f4 m1 : Addr} {fd fd1 fd2 fd3 fd4 md1 : FuncData} (F : Fun K "_law_reopened" "_law_reopened" sReop f fd) (T : Txt K mg) (TD : TxD K mg C) (FD : K6.FO P w K mg base CX0 1 "_law_draw" ["box", "many"] spDraw f1 fd1) (FT : K5.FO P w K mg base CX0 2 "_law_torn" ["box", "many"] K5.spLTorn f2 fd2)
    (FY : K5.FO P w K mg base CX0 13 "_law_try" ["disk"] (spTry C CL PC NK PN PV) f3 fd3) (FO : K5.FO P w K mg base (L2.CX P w) 12 "open_log" ["disk"] (spOpen C CL PC NK PN PV) f4 fd4) (MS : MO P w K mg base (L2.CX P w) 4 C "schedule_cut" ["self", "many", "torn"] (K5.spSched C D) m1 md1) :
    FnOk P w K mg base CX0 14 f fd ["box", "disk"] (spReop C CL PN PV) := by
  have sc := scReop
  refine F.ok sc (fun vs H Q E h => ?_) (fun cdv A outer s H vs Q E hr h => ?_)
  · obtain ⟨Z, b, d, p, dg, n, s, rows, E, y, rfl, _⟩ := h
    rfl
  · obtain ⟨Z, b, d, p, dg, n, ds, rows, Es, y, rfl, r0, eg, hy, hl, q⟩ := h
    refine ⟨_, (pss_cons (ps_for PassesOwn.never rfl (pi_range1 rfl T.range (pa_cons pe_int pa_nil)) (pg_name (i := 2) sc.nd rfl (Or.inl rfl))
      (pss_one (ps_if (pt_cmpR op_eq (pe_call FD.ok (hr.mono (by decide)) (by rfl) FD.m FD.kp FD.b .nil pass0 (pa_cons (pv 0) (pa_cons pe_int pa_nil))) pe_int (nomark _))
      (pss_cons (ps_expr (pe_meth (pv 1) TD.cl MS.mt MS.ok (hr.mono (by decide)) MS.bi .nil passN (pa_cons (pe_call FD.ok (hr.mono (by decide)) (by rfl) FD.m FD.kp FD.b .nil pass0 (pa_cons (pv 0) (pa_cons pe_int pa_nil))) (pa_cons (pe_call FT.ok (hr.mono (by decide)) (by rfl) FT.m FT.kp FT.b .nil pass0 (pa_cons (pv 0) (pa_cons pe_int pa_nil))) pa_nil))))
      (pss_cons (ps_set (i := 3) sc.nd rfl (Or.inl rfl) (pe_call FY.ok hr (by rfl) FY.m FY.kp FY.b .nil pass0 (pa_cons (pv 1) pa_nil)))
      (pss_one (ps_if (pt_cmpR op_notN (pv 3) pe_non (nomark _))
      (pss_one (ps_ret (pv 3)))
      pss_nil))))
      pss_nil)))
      (pss_cons (ps_expr (pe_meth (pv 1) TD.cl MS.mt MS.ok (hr.mono (by decide)) MS.bi .nil passN (pa_cons pe_int (pa_cons (pe_lst pa_nil) pa_nil))))
      (pss_one (ps_ret (pe_call FO.ok (hr.mono (by decide)) (by rfl) FO.m FO.kp FO.b .nil passN (pa_cons (pv 1) pa_nil)))))), ?_⟩
    refine ⟨_, rfl, by decide, by decide, for_range (lo := 0) (n := 3) (fun i σ H' => ∃ (y2 y3 : Option V) (Z' : Addr → Prop) (s' : DS) (n' : Nat), σ = [some (.ref b), some (.ref p), y2, y3] ∧ R0 C PN PV b d p dg ds.st.length Z H Z' H' s' rows y n') ⟨none, none, Z, ds, n, rfl, r0⟩ ?_ ?_⟩
    · rintro i σ HA hi ⟨y2, y3, Z1, s1, n1, rfl, r1⟩
      refine ⟨_, rfl, b, d, dg, n1, 2, rfl, r1.box, by decide, fun v0 h0 h1 => ?_⟩
      have r2 := r1.bs ((Bs.refl r1.box).draw)
      generalize upd HA b (.lst [.ref d, .int ((n1 + 1 : Nat) : Int)]) = HB at *
      refine ⟨rfl, _, rfl, ite2 (fun _ => ?_) (fun _ => ?_)⟩
      · obtain ⟨ddx, S0, W0, dv0, dvs0, dus0, d1, _⟩ := r2.dl.da.ex
        refine ⟨_, rfl, p, ddx, _, rfl, d1, K5.dF_no (by decide +kernel), _, rfl, b, d, dg, _, 30, rfl, r2.box, by decide, fun v1 h2 h3 => ?_⟩
        obtain ⟨j, rfl, hj⟩ := idx (m := 30) h2 h3
        have r3 := r2.bs ((Bs.refl r2.box).draw)
        generalize upd HB b (.lst [.ref d, .int ((n1 + 1 + 1 : Nat) : Int)]) = HC at *
        refine ⟨_, rfl, b, d, dg, _, 24, rfl, r3.box, by decide, fun HD tq tn n4 bs4 ntq etq okt ltn => ?_⟩
        have r4 := r3.bs bs4
        refine ⟨Z1, p, s1, _, tq, tn, rfl, r4.dl.da, etq, ltn, fun bad => by exfalso; omega, fun m em hm => ⟨fun bad => (by rw [okt] at bad; cases bad), fun _ HE kz da => ?_⟩⟩
        obtain ⟨Z5, dl5, f5⟩ := r4.dl.kz kz da
        have r5 := r4.disk dl5 f5 (r4.part.sc rfl rfl) rfl ltn
        refine nxp ⟨_, rfl, tnil_go (open_cut r5 eg hy r0.box r0.zb (fun H' n' Z' s' lp R e e1 e2 e3 e4 e5 e6 e7 e8 e9 ea eb ec ed ee ef eg' eh => ?_) (fun s' HF Z6 hc r6 hs => ⟨rfl, rfl, ?_⟩))⟩
        · refine nxp ⟨_, rfl, rfl, _, rfl, iteT ⟨_, rfl, ?_⟩⟩
          exact q H' n' Z' s' lp R e e1 e2 e3 e4 e5 e6 e7 e8 e9 ea eb ec ed ee ef eg' eh
        · refine nxp ⟨_, rfl, rfl, _, rfl, iteF ?_⟩
          exact ⟨_, _, _, _, _, rfl, r6⟩
      · exact ⟨_, _, _, _, _, rfl, r2⟩
    · rintro σ HA ⟨y2, y3, Z1, s1, n1, rfl, r1⟩
      obtain ⟨ddx, S0, W0, dv0, dvs0, dus0, d1, _⟩ := r1.dl.da.ex
      refine ⟨_, rfl, p, ddx, _, rfl, d1, K5.dF_no (by decide +kernel), Nat.zero_le _, fun tq ntq => ?_⟩
      have r2 := r1.bs ((Bs.refl r1.box).new (o := .lst []) ntq)
      have etq : upd HA tq (.lst []) tq = some (.lst (K5.iv [])) := upd_same
      generalize upd HA tq (.lst []) = HB at *
      refine ⟨Z1, p, s1, 100000, tq, [], rfl, r2.dl.da, etq, Nat.zero_le _, fun bad => by exfalso; omega, fun m em hm => ⟨fun bad => (by cases bad), fun _ HE kz da => ?_⟩⟩
      have em : m = 100000 := by omega
      subst em
      obtain ⟨Z5, dl5, f5⟩ := r2.dl.kz kz da
      have r5 := r2.disk dl5 f5 (r2.part.sc rfl rfl) rfl (Nat.zero_le _)
      refine nxp ⟨_, rfl, tnil_go (open_cut r5 eg hy r0.box r0.zb q fun s' H' Z' hc _ _ => ?_)⟩
      exact absurd hc (far_no rfl (by rw [r5.st]; omega))
end
end K7

set_option maxRecDepth 100000
set_option maxHeartbeats 4000000
/-! the law -/
namespace K7
open PySem hiding Tok code
open PySem.Spec PyProof.Rows GD K1 GS
open L2 hiding rest
open K6 (Rec RecAt RecSm wR spWRec recV recA T2 ST recD RecOK AV aV)
open K4 (Blks BlkV encR iv decO DecV)
open K5 (DS DA Kz grow rdM stepS tnS cutM flM MO TxD TxP TxO passE z32 rLenK call_lenK)
abbrev sLaw48 : Stmt := topS 89
structure TxM8 (mg : Str → Option Value) : Prop where
  min : mg "min" = none
  max : mg "max" = none
/-- what lies where -/
structure H8 (C CL PN PV b d p Rl El lp R : Addr) (dg : List Int) (Z : Addr → Prop) (H : Hp) (s : DS) (rowsL : List Rec) (u c : Nat) (rowsP : List Rec) (EP : List Nat) (n : Nat) : Prop where
  box : Box H b d dg n
  zb : ¬ Z b
  zd : ¬ Z d
  dl : DL C PN PV Z H p s
  lg : LG CL H lp p R rowsL u c
  zl : ¬ Z lp
  zr : ¬ Z R
  rl : ∃ vl, H Rl = some (.lst vl) ∧ LsR H vl rowsP
  el : H El = some (.lst (EP.map fun e : Nat => V.int (e : Int)))
  zRl : ¬ Z Rl
  zEl : ¬ Z El
  n2 : Rl ≠ R
  n3 : El ≠ R
  n4 : Rl ≠ El
  b2 : b ≠ R
  b3 : b ≠ Rl
  b4 : b ≠ El
  d2 : d ≠ R
  d3 : d ≠ Rl
  d4 : d ≠ El
theorem LsR.frX8 {Z : Addr → Prop} {H H' : Hp} (n : NT Z H) (f : ∀ q xs, ¬ Z q → H q = some (.tup xs) → H' q = some (.tup xs)) {vs : List V} {xs : List Rec} (h : LsR H vs xs) : LsR H' vs xs :=
  pairImp (fun _ x ⟨r, e, a, h1, h2⟩ => ⟨r, e, a, f r _ (n.tab (ps := []) h1 (recV_bad a x)) h1, fun l e => f a _ (n.tab (ps := []) (h2 l e) (recA_bad e)) (h2 l e)⟩) h
section
variable {C CL PN PV b d p Rl El lp R : Addr} {dg : List Int} {n n' u c : Nat} {Z Z' : Addr → Prop} {H H' : Hp} {s s' : DS} {rowsL rowsP : List Rec} {EP : List Nat}
theorem H8.same (h : H8 C CL PN PV b d p Rl El lp R dg Z H s rowsL u c rowsP EP n) (y : Same H H') : H8 C CL PN PV b d p Rl El lp R dg Z H' s rowsL u c rowsP EP n := by
  obtain ⟨vl, e1, e2⟩ := h.rl
  exact { h with box := ⟨y _ _ h.box.1, y _ _ h.box.2.1, h.box.2.2⟩, dl := h.dl.same y, lg := h.lg.same y, rl := ⟨vl, y _ _ e1, e2.keep fun q xs e => y q _ e⟩, el := y _ _ h.el }
theorem H8.bs (h : H8 C CL PN PV b d p Rl El lp R dg Z H s rowsL u c rowsP EP n) (y : Bs b d dg H H' n') : H8 C CL PN PV b d p Rl El lp R dg Z H' s rowsL u c rowsP EP n' := by
  obtain ⟨vl, e1, e2⟩ := h.rl
  obtain ⟨dx, vs, g1, g2, g3⟩ := h.lg.ex
  exact { h with box := y.box, dl := h.dl.bs y h.box h.zb, lg := ⟨dx, vs, y.bx _ _ (ne_of g1 h.box.1 (by intro z; cases z)) g1, y.bx _ _ h.b2.symm g2, g3.keep (tupB y h.box)⟩, rl := ⟨vl, y.bx _ _ h.b3.symm e1, e2.keep (tupB y h.box)⟩, el := y.bx _ _ h.b4.symm h.el }
/-- the disk has changed, the log has not -/
theorem H8.disk (h : H8 C CL PN PV b d p Rl El lp R dg Z H s rowsL u c rowsP EP n) (dl : DL C PN PV Z' H' p s') (f : Fr Z H Z' H') : H8 C CL PN PV b d p Rl El lp R dg Z' H' s' rowsL u c rowsP EP n := by
  obtain ⟨vl, e1, e2⟩ := h.rl
  have nt : ∀ {xs : List V}, ∀ ps, (HO.lst xs) ≠ .tbl ps := fun ps z => by cases z
  have fb := f b _ h.zb nt h.box.1
  have fd := f d _ h.zd nt h.box.2.1
  have fR := f Rl _ h.zRl nt e1
  have fE := f El _ h.zEl nt h.el
  obtain ⟨g1, g2, g3⟩ := h.lg.fr h.dl.nt f h.zl h.zr
  exact { h with box := ⟨fb.1, fd.1, h.box.2.2⟩, zb := fb.2, zd := fd.2, dl := dl, lg := g1, zl := g2, zr := g3, rl := ⟨vl, fR.1, e2.fr h.dl.nt f⟩, el := fE.1, zRl := fR.2, zEl := fE.2 }
/-- the disk and the log have changed -/
theorem H8.log {lp' R' : Addr} {rowsL' : List Rec} {u' c' : Nat} (h : H8 C CL PN PV b d p Rl El lp R dg Z H s rowsL u c rowsP EP n) (box : Box H' b d dg n') (zb : ¬ Z' b) (dl : DL C PN PV Z' H' p s') (f : ∀ q o, q ≠ b → q ≠ lp → q ≠ R → ¬ Z q → (∀ ps, o ≠ .tbl ps) → H q = some o → H' q = some o ∧ ¬ Z' q)
    (lg : LG CL H' lp' p R' rowsL' u' c') (zl : ¬ Z' lp') (zr : ¬ Z' R') (nb : ∀ q o, ¬ Z q → q ≠ R → (∀ ps, o ≠ .tbl ps) → H q = some o → q ≠ R') : H8 C CL PN PV b d p Rl El lp' R' dg Z' H' s' rowsL' u' c' rowsP EP n' := by
  obtain ⟨vl, e1, e2⟩ := h.rl
  obtain ⟨dx, vs, g1, g2, g3⟩ := h.lg.ex
  have nt : ∀ {xs : List V}, ∀ ps, (HO.lst xs) ≠ .tbl ps := fun ps z => by cases z
  have nl : ∀ {q : Addr} {xs : List V}, H q = some (.lst xs) → q ≠ lp := fun e => ne_of e g1 (by intro z; cases z)
  have fd := f d _ h.box.ne (nl h.box.2.1) h.d2 h.zd nt h.box.2.1
  have fR := f Rl _ h.b3.symm (nl e1) h.n2 h.zRl nt e1
  have fE := f El _ h.b4.symm (nl h.el) h.n3 h.zEl nt h.el
  exact { h with box := box, zb := zb, zd := fd.2, dl := dl, lg := lg, zl := zl, zr := zr, rl := ⟨vl, fR.1, LsR.frX8 h.dl.nt (fun q xs z e => (f q _ (ne_of e h.box.1 (by intro z; cases z)) (ne_of e g1 (by intro z; cases z)) (ne_of e g2 (by intro z; cases z)) z (fun ps z => by cases z) e).1) e2⟩, el := fE.1, zRl := fR.2, zEl := fE.2, n2 := nb _ _ h.zRl h.n2 nt e1, n3 := nb _ _ h.zEl h.n3 nt h.el, b2 := nb _ _ h.zb h.b2 nt h.box.1, d2 := nb _ _ h.zd h.d2 nt h.box.2.1 }
theorem H8.newR {l : Addr} {vl : List V} {rows' : List Rec} (h : H8 C CL PN PV b d p Rl El lp R dg Z H s rowsL u c rowsP EP n) (k : Same H H') (nl : H l = none) (e : H' l = some (.lst vl)) (lr : LsR H' vl rows') : H8 C CL PN PV b d p l El lp R dg Z H' s rowsL u c rows' EP n := by
  obtain ⟨dx, vs, g1, g2, g3⟩ := h.lg.ex
  have h2 := h.same k
  exact { h2 with rl := ⟨vl, e, lr⟩, zRl := h.dl.no nl, n2 := (ne_of_none g2 nl).symm, n4 := (ne_of_none h.el nl).symm, b3 := ne_of_none h.box.1 nl, d3 := ne_of_none h.box.2.1 nl }
theorem H8.newE {l : Addr} {E' : List Nat} (h : H8 C CL PN PV b d p Rl El lp R dg Z H s rowsL u c rowsP EP n) (k : Same H H') (nl : H l = none) (e : H' l = some (.lst (E'.map fun e : Nat => V.int (e : Int)))) : H8 C CL PN PV b d p Rl l lp R dg Z H' s rowsL u c rowsP E' n := by
  obtain ⟨dx, vs, g1, g2, g3⟩ := h.lg.ex
  obtain ⟨vl, e1, e2⟩ := h.rl
  have h2 := h.same k
  exact { h2 with el := e, zEl := h.dl.no nl, n3 := (ne_of_none g2 nl).symm, n4 := ne_of_none e1 nl, b4 := ne_of_none h.box.1 nl, d4 := ne_of_none h.box.2.1 nl }
theorem H8.appE {E' : List Nat} (h : H8 C CL PN PV b d p Rl El lp R dg Z H s rowsL u c rowsP EP n) : H8 C CL PN PV b d p Rl El lp R dg Z (upd H El (.lst (E'.map fun e : Nat => V.int (e : Int)))) s rowsL u c rowsP E' n := by
  obtain ⟨dx, vs, g1, g2, g3⟩ := h.lg.ex
  obtain ⟨vl, e1, e2⟩ := h.rl
  have tup : ∀ q xs, H q = some (.tup xs) → upd H El (.lst (E'.map fun e : Nat => V.int (e : Int))) q = some (.tup xs) := fun q xs e => by rw [upd_ne (ne_of e h.el (by intro z; cases z))]; exact e
  exact { h with box := ⟨by rw [upd_ne h.b4]; exact h.box.1, by rw [upd_ne h.d4]; exact h.box.2.1, h.box.2.2⟩, dl := h.dl.wr h.zEl h.el (fun ps z => by cases z), lg := ⟨dx, vs, by rw [upd_ne (ne_of g1 h.el (by intro z; cases z))]; exact g1, by rw [upd_ne h.n3.symm]; exact g2, g3.keep tup⟩, rl := ⟨vl, by rw [upd_ne h.n4]; exact e1, e2.keep tup⟩, el := upd_same }
end
def cutD : PyData := .tuple [.str "refused", .str "cut"]
def deadD : PyData := .tuple [.str "refused", .str "dead"]
def fullD : PyData := .tuple [.str "refused", .str "full"]
/-- what is told -/
inductive TV (H : Hp) : V → Bool → Bool → Prop
  | non : TV H .non false false
  | str : TV H (.str "none") false false
  | int (k : Int) : TV H (.int k) false false
  | full {q : Addr} (e : H q = some (.tup [.str "refused", .str "full"])) : TV H (.ref q) false true
  | cut {q : Addr} (e : H q = some (.tup [.str "refused", .str "cut"])) : TV H (.ref q) true false
theorem TV.same {H H' : Hp} {v : V} {c f : Bool} (h : TV H v c f) (k : ∀ q xs, H q = some (.tup xs) → H' q = some (.tup xs)) : TV H' v c f := by
  cases h with
  | non => exact .non
  | str => exact .str
  | int k => exact .int k
  | full e => exact .full (k _ _ e)
  | cut e => exact .cut (k _ _ e)
theorem TV.dp {K : PySem.W.Frag} {H : Hp} {v : V} {c f : Bool} (h : TV H v c f) : ∃ dd, Dp K H v dd ∧ SeqAt.shaped dd = true ∧ PyData.eqv dd deadD = false ∧ PyData.eqv dd cutD = c ∧ PyData.eqv dd fullD = f := by
  cases h with
  | non => exact ⟨.none, .non, rfl, rfl, rfl, rfl⟩
  | str => exact ⟨.str "none", .str _, by decide +kernel, by decide +kernel, by decide +kernel, by decide +kernel⟩
  | int k => exact ⟨.int k, .int _, rfl, rfl, rfl, rfl⟩
  | full e => exact ⟨fullD, .tup (SqT.of e) (.cons (.str _) (.cons (.str _) .nil)), by decide +kernel, by decide +kernel, by decide +kernel, by decide +kernel⟩
  | cut e => exact ⟨cutD, .tup (SqT.of e) (.cons (.str _) (.cons (.str _) .nil)), by decide +kernel, by decide +kernel, by decide +kernel, by decide +kernel⟩
theorem two_dp {K : PySem.W.Frag} {H : Hp} {q : Addr} {z : Str} (e : H q = some (.tup [.str "refused", .str z])) : Dp K H (.ref q) (.tuple [.str "refused", .str z]) := .tup (SqT.of e) (.cons (.str _) (.cons (.str _) .nil))
theorem Pre.sc {s : DS} {rows : List Rec} {y : Nat} {x : Option (Nat × List Int)} (h : Pre s rows y) : Pre ⟨s.st, s.wa, s.cuts, x⟩ rows y := ⟨h.len, h.wr, h.pn, h.ex⟩
theorem Holds.sc {s : DS} {rows : List Rec} {x : Option (Nat × List Int)} (h : Holds s rows) : Holds ⟨s.st, s.wa, s.cuts, x⟩ rows := ⟨h.len, fun i hi => h.vw i hi⟩
end K7

set_option maxRecDepth 100000
set_option maxHeartbeats 4000000
/-! the law -/
namespace K7
open PySem hiding Tok code
open PySem.Spec PyProof.Rows GD K1 GS
open L2 hiding rest
open K6 (Rec RecAt RecSm wR spWRec recV recA T2 ST recD RecOK AV aV)
open K4 (Blks BlkV encR iv decO DecV)
open K5 (DS DA Kz grow rdM stepS tnS cutM flM MO TxD TxP TxO passE z32 rLenK call_lenK)
/-- between the turns -/
structure S8 (C CL PN PV b d p : Addr) (dg : List Int) (Z : Addr → Prop) (H : Hp) (s : DS) (lp R Rl El : Addr) (rows : List Rec) (E : List Nat) (y n : Nat) : Prop where
  h : H8 C CL PN PV b d p Rl El lp R dg Z H s rows (blkL 0 rows).length s.cuts rows E n
  eg : EG rows E
  hy : y ∈ E
  sz : s.st.length ≤ 160
  pre : Pre s rows y
  hold : Holds s rows
  wa : s.wa.length ≤ (blkL 0 rows).length
  tn : (tnS s).length ≤ 1000
/-- behind a cut -/
structure D8 (C CL PN PV b d p : Addr) (dg : List Int) (Z : Addr → Prop) (H : Hp) (s : DS) (lp R Rl El : Addr) (rowsP : List Rec) (EP : List Nat) (rows : List Rec) (E : List Nat) (y n : Nat) : Prop where
  ex : ∃ rowsL u c, H8 C CL PN PV b d p Rl El lp R dg Z H s rowsL u c rowsP EP n ∧ c ≠ s.cuts ∧ u ≤ s.st.length ∧ rowsL.length ≤ 1000
  eg : EG rows E
  hy : y ∈ E
  sz : s.st.length ≤ 160
  part : Part s rows y
  sc : s.sc = none
section
variable {C CL PN PV b d p Rl El lp R : Addr} {dg : List Int} {n n' : Nat} {Z Z' : Addr → Prop} {H H' : Hp} {s s' : DS} {rows : List Rec} {E : List Nat} {y : Nat}
theorem S8.same (h : S8 C CL PN PV b d p dg Z H s lp R Rl El rows E y n) (x : Same H H') : S8 C CL PN PV b d p dg Z H' s lp R Rl El rows E y n := { h with h := h.h.same x }
theorem S8.bs (h : S8 C CL PN PV b d p dg Z H s lp R Rl El rows E y n) (x : Bs b d dg H H' n') : S8 C CL PN PV b d p dg Z H' s lp R Rl El rows E y n' := { h with h := h.h.bs x }
theorem S8.len (h : S8 C CL PN PV b d p dg Z H s lp R Rl El rows E y n) : (blkL 0 rows).length ≤ 160 ∧ rows.length ≤ 160 := by
  have h1 := h.hold.len
  have h2 := blkL_ge 0 rows
  have h4 := h.sz
  omega
theorem D8.same {rowsP : List Rec} {EP : List Nat} (h : D8 C CL PN PV b d p dg Z H s lp R Rl El rowsP EP rows E y n) (x : Same H H') : D8 C CL PN PV b d p dg Z H' s lp R Rl El rowsP EP rows E y n := by
  obtain ⟨rl, u, c, g, r⟩ := h.ex
  exact { h with ex := ⟨rl, u, c, g.same x, r⟩ }
end
theorem DL.start {C PN PV p : Addr} {Z : Addr → Prop} {H : Hp} {s : DS} (da : DA C Z H p s) (t2 : T2 PN PV H) : DL C PN PV (trim Z H) H p s := ⟨DA.trim da, fun q z => z.2, t2⟩
theorem ents_ok : ∀ xs ∈ ents3, (decide (0 < xs.length) && K6.namsB xs 3) = true ∧ (∀ x ∈ xs, x.length ≤ 5000) ∧ (tL (.ent xs)).length ≤ 24 := by decide +kernel
theorem ents_rk {xs : List Str} (h : xs ∈ ents3) : RK (.ent xs) := by
  refine ⟨?_, by have := (ents_ok xs h).2.2; omega⟩
  simp only [ents3, List.mem_cons, List.not_mem_nil, or_false] at h
  exact h
theorem ents_rows {xs : List Str} (h : xs ∈ ents3) : RowsOK [.ent xs] := by
  refine ⟨fun x hx => by rw [List.mem_singleton.mp hx]; exact ents_rk h, fun i x hx => ?_, ?_⟩
  · cases i with
    | zero => cases hx; rfl
    | succ i => cases hx
  · show (if ([] : List Str).length ≠ 0 ∨ K6.twB [] = true then 0 else cwM [] 2 1 []) = 1
    rw [if_neg (fun z => z.elim (fun z => z rfl) (fun z => by cases z))]
    rfl
theorem ents_len {xs : List Str} (h : xs ∈ ents3) : (blkL 0 [.ent xs]).length ≤ 1 := by
  rw [blk1, rowB_cnt]
  have := (ents_ok xs h).2.2
  unfold K4.cnt
  omega
theorem sq_keepF {K : PySem.W.Frag} {H H' : Hp} {a : Addr} {xs : List V} (h : SqL K H a xs) (k : ∀ o, (∀ ps, o ≠ .tbl ps) → H a = some o → H' a = some o) : SqL K H' a xs := by
  rcases h with (e | ⟨o, e⟩) | e
  · exact .inl (.inl (k _ (fun ps z => by cases z) e))
  · exact .inl (.inr ⟨o, k _ (fun ps z => by cases z) e⟩)
  · exact .inr e
/-- what the log tells is what the law has -/
theorem recs_alike {K : PySem.W.Frag} {H : Hp} {rows : List Rec} {a c : Addr} {vs vl : List V} (ok : RowsOK rows) (hl : rows.length ≤ 160) (ea : H a = some (.lst vs)) (ec : H c = some (.lst vl)) (l1 : LsR H vs rows) (l2 : LsR H vl rows) : ∃ dd : PyData, Dp K H (.ref a) dd ∧ Dp K H (.ref c) dd ∧ dd ≠ .none ∧ dd.showable = true ∧ dd.hasDict = false ∧ dd.depth ≤ 60 ∧ dd.shown.length ≤ sizeLine := by
  have ft := K6.Fit.list (ds := rows.map recD) (k := 2) (B := 60000) fun x hx => by
    obtain ⟨y, hy, rfl⟩ := List.mem_map.mp hx
    exact K6.recD_fit (ok.k y hy).ok
  refine ⟨.list (rows.map recD), .lst (SqL.of ea) (recs_dp l1), .lst (SqL.of ec) (recs_dp l2), (by intro z; cases z), ft.sh, ft.nd, Nat.le_trans ft.dp (by decide), Nat.le_trans ft.ln ?_⟩
  rw [List.length_map]
  have : rows.length * (60000 + 2) ≤ 160 * 60002 := Nat.mul_le_mul_right _ hl
  exact Nat.le_trans (Nat.add_le_add_right this 4) (by decide)
theorem inV_mem {k : Nat} {E : List Nat} (h : k ∈ E) : inV (.int (k : Int)) (E.map fun e : Nat => V.int (e : Int)) = true :=
  List.any_eq_true.mpr ⟨.int (k : Int), List.mem_map.mpr ⟨k, h, rfl⟩, by simp [eqV]⟩
theorem flat_ints (E : List Nat) : (E.map fun e : Nat => V.int (e : Int)).all flatV = true := List.all_eq_true.mpr fun v hv => by
  obtain ⟨e, _, rfl⟩ := List.mem_map.mp hv
  rfl
theorem steps_ex (j : Int) : ∃ n : Nat, (if (30 : Int) < (if j > 0 then j else 0) then 30 else (if j > 0 then j else 0)) = (n : Int) ∧ n ≤ 30 := by
  by_cases h : j > 0
  · rw [if_pos h]
    by_cases g : (30 : Int) < j
    · rw [if_pos g]; exact ⟨30, rfl, Nat.le_refl _⟩
    · rw [if_neg g]; exact ⟨j.toNat, by omega, by omega⟩
  · rw [if_neg h]
    exact ⟨0, rfl, Nat.zero_le _⟩
section
variable {P : Program} {w : World} {K : PySem.W.Frag} {mg : Str → Option Value} {base : Heap} {C CL NO LF PC D PN PV NK : Addr}
def spLaw (K : PySem.W.Frag) (PN PV : Addr) : L2.Sp := fun vs H Q _ => ∃ (a : Addr) (ns : List Int), vs = [.ref a] ∧ SqL K H a (ns.map V.int) ∧ K6.T2 PN PV H ∧ ∀ H', Q (.bl true) H'
theorem scLaw48 : FnScope ["script", "box", "disk", "entries", "log", "records", "ends", "synced", "steps", "turn", "kind", "told", "rows", "many", "end"] ["script"] (defScope sLaw48) := ⟨rfl, rfl, rfl, by decide +kernel, rfl, by decide +kernel, by decide +kernel⟩
theorem ok_law48 {f f1 f2 f3 f4 f5 f6 f7 f8 f9 f0 m1 m2 m3 m4 fal : Addr} {fd fd1 fd2 fd3 fd4 fd5 fd6 fd7 fd8 fd9 fd0 md1 md2 md3 md4 dal : FuncData} (F : Fun K "law" "law" sLaw48 f fd) (T : Txt K mg) (T2 : TxM8 mg) (TD : TxD K mg C) (TL : TxL K mg CL)
    (MD : Mk K C f0) (bD : Binds K fd0 ["self", "blocks"] []) (OD : FnOk P w K mg base (L2.CX P w) 3 f0 fd0 ["self", "blocks"] (K5.spDInit C D))
    (G1 : K6.FO P w K mg base CX0 2 "_law_digits" ["script", "first", "last"] (spDigits K) f1 fd1) (G2 : K6.FO P w K mg base CX0 1 "_law_draw" ["box", "many"] spDraw f2 fd2) (G3 : K5.FO P w K mg base CX0 2 "_law_entries" ["box"] spEnt f3 fd3)
    (G4 : K5.FO P w K mg base (L2.CX P w) 8 "format_disk" ["disk", "entries"] (spFmt C PC PN PV) f4 fd4) (G5 : K5.FO P w K mg base (L2.CX P w) 12 "open_log" ["disk"] (spOpen C CL PC NK PN PV) f5 fd5)
    (G6 : K5.FO P w K mg base CX0 3 "_law_some_rows" ["box", "records"] spRows f6 fd6) (G7 : K5.FO P w K mg base CX0 9 "_law_ask" ["log", "which", "rows"] (spAsk C CL NO LF PC PN PV) f7 fd7) (G8 : K5.FO P w K mg base CX0 2 "_law_torn" ["box", "many"] K5.spLTorn f8 fd8) (G9 : K5.FO P w K mg base CX0 14 "_law_reopened" ["box", "disk"] (spReop C CL PN PV) f9 fd9)
    (MCu : MO P w K mg base (L2.CX P w) 4 C "cut_power" ["self", "torn"] (K5.spCut C D) m1 md1) (MP : MO P w K mg base CX0 1 C "pending_count" ["self"] (K5.spPend C) m2 md2) (MRc : MO P w K mg base CX0 1 CL "records" ["self"] (spRecs CL) m3 md3) (MS : MO P w K mg base (L2.CX P w) 4 C "schedule_cut" ["self", "many", "torn"] (K5.spSched C D) m4 md4)
    (FA : FnG P w K mg base CX0 1 fal dal ["one", "two"] (spAlike K)) (ma : mg "_law_alike" = some (.ref fal)) (ka : PySem.W.keepIn K (.ref fal) = true) (ba : Binds K dal ["one", "two"] []) : FnG P w K mg base CX0 15 f fd ["script"] (spLaw K PN PV) := by
  have sc := scLaw48
  refine okG F sc (fun vs H Q E h => ?_) (fun cdv A outer s H vs Q E hgd hr h => ?_)
  · obtain ⟨a, ns, rfl, _⟩ := h
    rfl
  · obtain ⟨a, ns, rfl, hS, t2, q⟩ := h
    have hr1 := hr.mono (show 1 ≤ 14 by decide)
    have hr2 := hr.mono (show 2 ≤ 14 by decide)
    have hr3 := hr.mono (show 3 ≤ 14 by decide)
    have hr4 := hr.mono (show 4 ≤ 14 by decide)
    have hr8 := hr.mono (show 8 ≤ 14 by decide)
    have hr9 := hr.mono (show 9 ≤ 14 by decide)
    have hr12 := hr.mono (show 12 ≤ 14 by decide)
    refine ⟨_, (pss_cons (ps_set (i := 1) sc.nd rfl (Or.inl rfl) (pe_lst (pa_cons (pe_call G1.ok hr2 (by rfl) G1.m G1.kp G1.b .nil pass0 (pa_cons (pv 0) (pa_cons pe_int (pa_cons pe_int pa_nil)))) (pa_cons pe_int pa_nil))))
      (pss_cons (ps_set (i := 2) sc.nd rfl (Or.inl rfl) (pe_make MD OD hr4 rfl TD.g bD .nil passN (pa_cons (pe_op op_add pe_int (pe_call G2.ok hr1 (by rfl) G2.m G2.kp G2.b .nil pass0 (pa_cons (pv 1) (pa_cons pe_int pa_nil)))) pa_nil)))
      (pss_cons (ps_set (i := 3) sc.nd rfl (Or.inl rfl) (pe_call G3.ok hr2 (by rfl) G3.m G3.kp G3.b .nil pass0 (pa_cons (pv 1) pa_nil)))
      (pss_cons (ps_expr (pe_call G4.ok hr8 (by rfl) G4.m G4.kp G4.b .nil passN (pa_cons (pv 2) (pa_cons (pv 3) pa_nil))))
      (pss_cons (ps_set (i := 4) sc.nd rfl (Or.inl rfl) (pe_call G5.ok hr12 (by rfl) G5.m G5.kp G5.b .nil passN (pa_cons (pv 2) pa_nil)))
      (pss_cons (ps_set (i := 5) sc.nd rfl (Or.inl rfl) (pe_lst (pa_cons (pe_tup (pa_cons pe_str (pa_cons (pv 3) pa_nil))) pa_nil)))
      (pss_cons (ps_set (i := 6) sc.nd rfl (Or.inl rfl) (pe_lst (pa_cons pe_int pa_nil)))
      (pss_cons (ps_set (i := 7) sc.nd rfl (Or.inl rfl) pe_int)
      (pss_cons (ps_set (i := 8) sc.nd rfl (Or.inl rfl) (pe_callB (call_min2 rfl) (by rfl) T2.min (by decide +kernel) (pa_cons (pe_callB (call_max2 rfl) (by rfl) T2.max (by decide +kernel) (pa_cons pe_int (pa_cons (pe_op op_sub (pe_callB call_len_seq (by rfl) T.len (by decide +kernel) (pa_cons (pv 0) pa_nil)) pe_int) pa_nil))) (pa_cons pe_int pa_nil))))
      (pss_cons (ps_for PassesOwn.never rfl (pi_range1 rfl T.range (pa_cons (pe_op op_add (pv 8) pe_int) pa_nil)) (pg_name (i := 9) sc.nd rfl (Or.inl rfl))
      (pss_cons (ps_set (i := 10) sc.nd rfl (Or.inl rfl) (pe_call G2.ok hr1 (by rfl) G2.m G2.kp G2.b .nil pass0 (pa_cons (pv 1) (pa_cons pe_int pa_nil))))
      (pss_cons (ps_set (i := 11) sc.nd rfl (Or.inl rfl) pe_str)
      (pss_cons (ps_if (pt_cmpR op_eq (pv 9) (pv 8) (nomark _))
      (pss_cons (ps_expr (pe_meth (pv 2) TD.cl MCu.mt MCu.ok hr4 MCu.bi .nil passN (pa_cons (pe_call G8.ok hr2 (by rfl) G8.m G8.kp G8.b .nil pass0 (pa_cons (pv 1) (pa_cons (pe_op op_add pe_int (pe_meth0 (pv 2) TD.cl MP.mt MP.ok hr1 MP.bi .nil pass0)) pa_nil))) pa_nil)))
      (pss_one (ps_set (i := 11) sc.nd rfl (Or.inl rfl) (pe_tup (pa_cons pe_str (pa_cons pe_str pa_nil))))))
      (pss_one (ps_if (pt_cmpR op_eq (pv 10) pe_int (nomark _))
      (pss_one (ps_expr (pe_meth (pv 2) TD.cl MS.mt MS.ok hr4 MS.bi .nil passN (pa_cons (pe_call G2.ok hr1 (by rfl) G2.m G2.kp G2.b .nil pass0 (pa_cons (pv 1) (pa_cons pe_int pa_nil))) (pa_cons (pe_call G8.ok hr2 (by rfl) G8.m G8.kp G8.b .nil pass0 (pa_cons (pv 1) (pa_cons pe_int pa_nil))) pa_nil)))))
      (pss_one (ps_if (pt_cmpR op_eq (pv 10) pe_int (nomark _))
      (pss_cons (ps_set (i := 11) sc.nd rfl (Or.inl rfl) (pe_call G7.ok hr9 (by rfl) G7.m G7.kp G7.b .nil pass0 (pa_cons (pv 4) (pa_cons pe_int (pa_cons (pe_lst pa_nil) pa_nil)))))
      (pss_one (ps_if (pt_cmpR op_isN (pv 11) pe_non (nomark _))
      (pss_one (ps_set (i := 7) sc.nd rfl (Or.inl rfl) (pe_callB call_len_seq (by rfl) T.len (by decide +kernel) (pa_cons (pv 5) pa_nil))))
      pss_nil)))
      (pss_cons (ps_set (i := 12) sc.nd rfl (Or.inl rfl) (pe_call G6.ok hr3 (by rfl) G6.m G6.kp G6.b .nil pass0 (pa_cons (pv 1) (pa_cons (pv 5) pa_nil))))
      (pss_cons (ps_set (i := 11) sc.nd rfl (Or.inl rfl) (pe_call G7.ok hr9 (by rfl) G7.m G7.kp G7.b .nil pass0 (pa_cons (pv 4) (pa_cons pe_int (pa_cons (pv 12) pa_nil)))))
      (pss_one (ps_if (pt_cmpR (op_neD hr.units) (pv 11) (pe_tup (pa_cons pe_str (pa_cons pe_str pa_nil))) (nomark _))
      (pss_cons (ps_set (i := 5) sc.nd rfl (Or.inl rfl) (pe_op op_cat (pv 5) (pv 12)))
      (pss_one (ps_expr (pe_bm PySem.F.plainAttrs_list PySem.F.slot_list_append PySem.F.type_list_append mt_append (pv 6) (pa_cons (pe_callB call_len_seq (by rfl) T.len (by decide +kernel) (pa_cons (pv 5) pa_nil)) pa_nil)))))
      pss_nil)))))))))
      (pss_cons (ps_if (pt_cmpR (op_eqD hr.units) (pv 11) (pe_tup (pa_cons pe_str (pa_cons pe_str pa_nil))) (nomark _))
      (pss_one (ps_ret pe_bl))
      pss_nil)
      (pss_cons (ps_if (pt_cmpR (op_eqD hr.units) (pv 11) (pe_tup (pa_cons pe_str (pa_cons pe_str pa_nil))) (nomark _))
      (pss_cons (ps_if (PW.pt (pw_or (pt_cmpR (op_neD hr.units) (pe_call G7.ok hr9 (by rfl) G7.m G7.kp G7.b .nil pass0 (pa_cons (pv 4) (pa_cons pe_int (pa_cons (pe_lst (pa_cons (pe_tup (pa_cons pe_str (pa_cons pe_int pa_nil))) pa_nil)) pa_nil)))) (pe_tup (pa_cons pe_str (pa_cons pe_str pa_nil))) (nomark _)) (pw_or1 (pt_cmpR (op_neD hr.units) (pe_call G7.ok hr9 (by rfl) G7.m G7.kp G7.b .nil pass0 (pa_cons (pv 4) (pa_cons pe_int (pa_cons (pe_lst pa_nil) pa_nil)))) (pe_tup (pa_cons pe_str (pa_cons pe_str pa_nil))) (nomark _)))))
      (pss_one (ps_ret pe_bl))
      pss_nil)
      (pss_cons (ps_set (i := 4) sc.nd rfl (Or.inl rfl) (pe_call G9.ok hr (by rfl) G9.m G9.kp G9.b .nil pass0 (pa_cons (pv 1) (pa_cons (pv 2) pa_nil))))
      (pss_cons (ps_set (i := 13) sc.nd rfl (Or.inr rfl) (pe_callB call_len_seq (by rfl) T.len (by decide +kernel) (pa_cons (pe_meth0 (pv 4) TL.cl MRc.mt MRc.ok hr1 MRc.bi .nil pass0) pa_nil)))
      (pss_cons (ps_if (PW.pt (pw_or (pt_cmpR op_notIn_seq (pv 13) (pv 6) rfl) (pw_or1 (pt_not (pt_chain op_le op_le (pv 7) (pv 13) (pe_callB call_len_seq (by rfl) T.len (by decide +kernel) (pa_cons (pv 5) pa_nil)))))))
      (pss_one (ps_ret pe_bl))
      pss_nil)
      (pss_cons (ps_set (i := 5) sc.nd rfl (Or.inl rfl) (pe_slice sl_list (pv 5) po_none (po_some (pv 13))))
      (pss_cons (ps_setLc (i := 6) (own := [("end", 14)]) rfl sc.nd rfl rfl (sw_true rfl rfl rfl (by decide +kernel)) (pi_list (pv 6)) (blkOk_by (own := [("end", 14)]) (N := ["script", "box", "disk", "entries", "log", "records", "ends", "synced", "steps", "turn", "kind", "told", "rows", "many", "end"]) (sc := defScope sLaw48) (by decide +kernel)) (fun _ _ _ _ _ => (pg_name (i := 14) sc.nd rfl (Or.inl rfl))) (fun _ _ _ _ _ => (pts_one (pt_cmpR op_le (pv 14) (pv 13) (nomark _)))) (fun _ _ _ _ _ => (pv 14)))
      (pss_one (ps_set (i := 7) sc.nd rfl (Or.inl rfl) (pv 13)))))))))
      pss_nil)
      (pss_one (ps_if (pt_not (pt_val (pe_callG FA hgd hr1 (by rfl) ma ka ba .nil pass0 (pa_cons (pe_meth0 (pv 4) TL.cl MRc.mt MRc.ok hr1 MRc.bi .nil pass0) (pa_cons (pv 5) pa_nil)))))
      (pss_one (ps_ret pe_bl))
      pss_nil))))))))
      (pss_one (ps_ret pe_bl)))))))))))), ?_⟩
    refine ⟨_, rfl, a, ns, rfl, hS, fun H1 d dg s1 nd ed ld => ⟨two_le, fun b nb => ?_⟩⟩
    have B0 : Box (upd H1 b (.lst [.ref d, .int 0])) b d dg 0 := ⟨upd_same, by rw [upd_ne (ne_of_none ed nb)]; exact ed, ld⟩
    have t20 : K6.T2 PN PV (upd H1 b (.lst [.ref d, .int 0])) := (t2.st (K5.snew s1 nb)).t
    have ka2 : ∀ o, H a = some o → (upd H1 b (.lst [.ref d, .int 0])) a = some o := fun o e => (K5.snew s1 nb) a o e
    have nab : ∀ o, H a = some o → a ≠ b := fun o e => ne_of_none (s1 _ _ e) nb
    generalize upd H1 b (.lst [.ref d, .int 0]) = H2 at *
    refine nxp ⟨_, rfl, b, d, dg, 0, 101, rfl, B0, by decide, fun r h0 h1 => ⟨_, _, rfl, rfl, ?_⟩⟩
    obtain ⟨jz, rfl, hjz⟩ := idx (m := 101) h0 h1
    have b3 := (Bs.refl B0).draw
    have t23 : K6.T2 PN PV (upd H2 b (.lst [.ref d, .int ((0 + 1 : Nat) : Int)])) := ⟨K6.tab_wr t20.n B0.1 (fun _ z => by cases z), K6.tab_wr t20.v B0.1 (fun _ z => by cases z)⟩
    have ka3 : ∀ o, H a = some o → (upd H2 b (.lst [.ref d, .int ((0 + 1 : Nat) : Int)])) a = some o := fun o e => b3.bx a o (nab o e) (ka2 o e)
    generalize upd H2 b (.lst [.ref d, .int ((0 + 1 : Nat) : Int)]) = H3 at *
    rw [show (fun i j : Int => V.int (i + j)) 60 ((jz : Nat) : Int) = V.int ((60 + jz : Nat) : Int) from (by show V.int (60 + ((jz : Nat) : Int)) = _; congr 1)]
    refine fun x dx nx ndx ne => ?_
    have s4 : Same H3 (upd (upd H3 dx (.own x)) x (.ins C dx [])) := fun z o hb => by rw [upd_ne (ne_of_none hb nx), upd_ne (ne_of_none hb ndx)]; exact hb
    refine ⟨x, dx, _, rfl, upd_same, by rw [upd_ne ne]; exact upd_same, fun n0 en n8 n400 H5 Z kp kz da => ⟨rfl, ?_⟩, fun bad => by exfalso; omega⟩
    have en : n0 = 60 + jz := by omega
    subst en
    have s35 : Same H3 H5 := fun z o e => kp z o (ne_of_none e nx) (s4 z o e)
    have dl5 : DL C PN PV (trim Z H5) H5 x (K5.DS0 (60 + jz)) := DL.start da (t23.st s35).t
    have old : ∀ z o, H3 z = some o → ¬ trim Z H5 z := fun z o e y => by
      rcases kz z y.1 with w | w | w
      · exact ne_of_none e nx w
      · exact ne_of_none e ndx w
      · rw [s4 z o e] at w; cases w
    have box5 : Box H5 b d dg 1 := ⟨s35 _ _ b3.box.1, s35 _ _ b3.box.2.1, b3.box.2.2⟩
    have zb := old b _ b3.box.1
    have zd := old d _ b3.box.2.1
    have ka5 : ∀ o, H a = some o → H5 a = some o ∧ ¬ trim Z H5 a := fun o e => ⟨s35 _ _ (ka3 o e), old a o (ka3 o e)⟩
    generalize trim Z H5 = Z5 at *
    refine nxp ⟨_, rfl, b, d, dg, 1, rfl, box5, fun H6 n6 e xs b6 ee hxs => ?_⟩
    have dl6 := dl5.bs b6 box5 zb
    have ka6 : ∀ o, H a = some o → H6 a = some o ∧ ¬ Z5 a := fun o e => ⟨b6.bx a o (nab o e) (ka5 o e).1, (ka5 o e).2⟩
    obtain ⟨eo1, eo2, eo3⟩ := ents_ok xs hxs
    have rk := ents_rk hxs
    have el := ents_len hxs
    have st0 : (K5.DS0 (60 + jz)).st.length = 60 + jz := List.length_replicate
    obtain ⟨s7, hf7, ho7, hsc7, hwa7, hcu7, hst7⟩ := format_holds (s := K5.DS0 (60 + jz)) (xs := xs) rfl rfl (by rw [st0]; omega)
    refine nxp ⟨_, rfl, _, rfl, Z5, x, e, K5.DS0 (60 + jz), xs, rfl, dl6, ee, eo2, eo1, rk.rw.b, by rw [st0]; omega, rfl, Nat.zero_le _, fun s' H7 Z7 h7 dl7 f7 => ?_, fun s' H7 Z7 h7 _ _ => by rw [hf7] at h7; cases h7⟩
    rw [hf7] at h7
    cases h7
    have nt : ∀ {xs : List V}, ∀ ps, (HO.lst xs) ≠ .tbl ps := fun ps z => by cases z
    have ka7 : ∀ o, (∀ ps, o ≠ .tbl ps) → H a = some o → H7 a = some o ∧ ¬ Z7 a := fun o n e => f7 a o (ka6 o e).2 n (ka6 o e).1
    have ne_e : ¬ Z5 e := dl6.nt.tab (ps := []) ee (by
      rintro ⟨n, q, e9⟩
      simp only [ents3, List.mem_cons, List.not_mem_nil, or_false] at hxs
      rcases hxs with rfl | rfl | rfl <;> cases e9)
    have fb := f7 b _ zb nt b6.box.1
    have fd := f7 d _ zd nt b6.box.2.1
    have fe := f7 e _ ne_e (fun ps z => by cases z) ee
    have eg0 : EG [Rec.ent xs] [1] := EG.start (ents_rows hxs)
    have part7 : Part s7 [Rec.ent xs] 1 := by
      have vw : ∀ i < s7.st.length, s7.st.getD i [] = Fb [Rec.ent xs] i := fun i hi => by
        have := ho7.vw i hi
        unfold rdM at this
        rw [hwa7] at this
        exact this
      exact ⟨ho7.len, hwa7, fun i hi => by rw [vw i hi]; exact (Pn.self (Fb_len _ _)).tn, fun i hi _ => vw i hi⟩
    have tn7 : tnS s7 = [] := by unfold tnS; rw [hsc7]
    have r07 : R0 C PN PV b d x dg s7.st.length Z7 H7 Z7 H7 s7 [Rec.ent xs] 1 n6 := ⟨⟨fb.1, fd.1, b6.box.2.2⟩, fb.2, fd.2, dl7, FrB.refl _ _ _, part7, rfl, by rw [tn7]; exact Nat.zero_le _⟩
    refine nxp ⟨_, rfl, tnil_go (open_cut r07 eg0 (List.mem_singleton.mpr rfl) r07.box fb.2 (fun H8 n8 Z8 s8 lp R k hk yk box8 zb8 zd8 dl8 f8 lg8 zl8 zr8 lr8 fresh8 pre8 hold8 wa8 st8 tn8 => ?_) (fun s2 H8 Z8 h2 _ _ => ?_))⟩
    rotate_left
    · exfalso
      obtain ⟨a1, a2, a3⟩ := all_holds ho7 (ents_rows hxs) (Nat.le_of_ble_eq_true rfl) (blkL_ge 0 _)
      obtain ⟨s9, hc9, _⟩ := clear_holds ho7 hsc7
      rw [a3, hc9] at h2
      cases h2
    have k1 : k = 1 := List.mem_singleton.mp hk
    subst k1
    have n8b : n8 = n8 := rfl
    have ka8 : ∀ o, (∀ ps, o ≠ .tbl ps) → H a = some o → H8 a = some o ∧ ¬ Z8 a := fun o n e => f8 a o (nab o e) (ka7 o n e).2 n (ka7 o n e).1
    have eb1 : e ≠ b := ne_of fe.1 fb.1 (by intro z; cases z)
    have fe8 := f8 e _ eb1 fe.2 (fun ps z => by cases z) fe.1
    refine nxp ⟨_, rfl, two_le, fun t nt9 => ⟨(by show 1 ≤ sizeLine; decide), fun Rl nRl => ?_⟩⟩
    have s9 : Same H8 (upd (upd H8 t (.tup [.str "entries", .ref e])) Rl (.lst [.ref t])) := K5.snew (Same.lst (Same.refl _) nt9) nRl
    have hRl8 : H8 Rl = none := K5.sfree (Same.lst (Same.refl _) nt9) nRl
    have ntR : t ≠ Rl := fun z => by rw [← z, upd_same] at nRl; cases nRl
    have et : upd (upd H8 t (.tup [.str "entries", .ref e])) Rl (.lst [.ref t]) t = some (.tup [.str "entries", .ref e]) := by rw [upd_ne ntR]; exact upd_same
    have eRl : upd (upd H8 t (.tup [.str "entries", .ref e])) Rl (.lst [.ref t]) Rl = some (.lst [.ref t]) := upd_same
    generalize upd (upd H8 t (.tup [.str "entries", .ref e])) Rl (.lst [.ref t]) = H9 at *
    refine nxp ⟨(by show 1 ≤ sizeLine; decide), fun El nEl => ?_⟩
    have sA : Same H9 (upd H9 El (.lst [.int 1])) := Same.lst (Same.refl _) nEl
    have eEl : upd H9 El (.lst [.int 1]) El = some (.lst [.int 1]) := upd_same
    have s8A : Same H8 (upd H9 El (.lst [.int 1])) := fun z o e => sA _ _ (s9 _ _ e)
    have hEl8 : H8 El = none := K5.sfree s9 nEl
    have eRl2 := sA _ _ eRl
    have et2 := sA _ _ et
    have nRE : Rl ≠ El := ne_of_none eRl nEl
    generalize upd H9 El (.lst [.int 1]) = HA at *
    obtain ⟨dx8, vs8, g1, g2, g3⟩ := lg8.ex
    have tk1 : [Rec.ent xs].take 1 = [Rec.ent xs] := rfl
    have lk1 : lenM [Rec.ent xs] 1 = (blkL 0 [Rec.ent xs]).length := rfl
    rw [tk1] at lg8 pre8 hold8
    rw [lk1] at lg8
    have h0 : K7.H8 C CL PN PV b d x Rl El lp R dg Z8 HA s8 [Rec.ent xs] (blkL 0 [Rec.ent xs]).length s8.cuts [Rec.ent xs] [1] n8 := ⟨⟨s8A _ _ box8.1, s8A _ _ box8.2.1, box8.2.2⟩, zb8, zd8, dl8.same s8A, lg8.same s8A, zl8, zr8, ⟨_, eRl2, .cons ⟨t, rfl, e, et2, fun l e9 => by cases e9; exact s8A _ _ fe8.1⟩ .nil⟩, eEl, dl8.no hRl8, dl8.no hEl8, (ne_of_none g2 hRl8).symm, (ne_of_none g2 hEl8).symm, nRE,
      (fresh8 _ _ fb.2 nt fb.1).2, ne_of_none box8.1 hRl8, ne_of_none box8.1 hEl8, (fresh8 _ _ fd.2 nt fd.1).2, ne_of_none box8.2.1 hRl8, ne_of_none box8.2.1 hEl8⟩
    have ls0 : S8 C CL PN PV b d x dg Z8 HA s8 lp R Rl El [Rec.ent xs] [1] 1 n8 := ⟨h0, eg0, List.mem_singleton.mpr rfl, by rw [st8, hst7, st0]; omega, pre8, hold8, by rw [wa8]; exact Nat.zero_le _, tn8⟩
    have hSA : SqL K HA a (ns.map V.int) := sq_keepF hS fun o n e => s8A _ _ (ka8 o n e).1
    refine nxp (nxp ⟨_, rfl, a, _, rfl, .inl hSA, _, _, rfl, rfl, _, _, rfl, _, _, rfl, ?_⟩)
    obtain ⟨stp, hn, hstp⟩ := steps_ex ((((ns.map V.int).length : Nat) : Int) - 6)
    rw [hn]
    refine nxp ⟨_, rfl, _, _, rfl, rfl, ?_⟩
    rw [show (fun i j : Int => V.int (i + j)) ((stp : Nat) : Int) 1 = V.int ((stp + 1 : Nat) : Int) from rfl]
    refine ⟨_, rfl, by omega, by omega, for_range (lo := 0) (n := stp + 1) (fun i σ H' => ∃ (y9 y10 y11 y12 y13 y14 : Option V) (lp R Rl El : Addr) (Z : Addr → Prop) (s : DS) (rows : List Rec) (E : List Nat) (y n' : Nat), σ = [some (.ref a), some (.ref b), some (.ref x), some (.ref e), some (.ref lp), some (.ref Rl), some (.ref El), some (.int (y : Nat)), some (.int (stp : Nat)), y9, y10, y11, y12, y13, y14] ∧ E.length ≤ i + 1 ∧ S8 C CL PN PV b d x dg Z H' s lp R Rl El rows E y n')
      ⟨none, none, none, none, none, none, lp, R, Rl, El, Z8, s8, _, _, 1, n8, rfl, Nat.le_refl _, ls0⟩ ?_ ?_⟩
    rotate_left
    · rintro σ HB ⟨y9, y10, y11, y12, y13, y14, lp, R, Rl, El, Z, s, rows, E, y, n', rfl, _, ls⟩
      exact q _
    rintro i σ HB hi ⟨y9, y10, y11, y12, y13, y14, lp, R, Rl, El, Z, s, rows, E, y, n', rfl, hE, ls⟩
    refine ⟨_, rfl, b, d, dg, n', 7, rfl, ls.h.box, by decide, fun r2 h2 h3 => ?_⟩
    have ls1 := ls.bs ((Bs.refl ls.h.box).draw)
    generalize upd HB b (.lst [.ref d, .int ((n' + 1 : Nat) : Int)]) = HC at *
    clear ls
    refine nxp (nxp ?_)
    refine seq_mid (A := tIfS _ _ _) (fun σ' H' => ∃ (v : V) (y12 y13 y14 : Option V) (lp R Rl El : Addr) (Z : Addr → Prop) (s : DS) (rows : List Rec) (E : List Nat) (y n' : Nat), σ' = [some (.ref a), some (.ref b), some (.ref x), some (.ref e), some (.ref lp), some (.ref Rl), some (.ref El), some (.int (y : Nat)), some (.int (stp : Nat)), some (.int (0 + (i : Nat))), some (.int r2), some v, y12, y13, y14] ∧ E.length ≤ i + 2 ∧ ((∃ f, TV H' v false f ∧ S8 C CL PN PV b d x dg Z H' s lp R Rl El rows E y n') ∨ (TV H' v true false ∧ D8 C CL PN PV b d x dg Z H' s lp R Rl El rows E rows E y n'))) ?_ (fun mid => ?_)
    rotate_left
    · refine ⟨_, rfl, _, rfl, rfl, _, rfl, ite2 (fun _ => ?_) (fun _ => ?_)⟩
      · obtain ⟨ddx, S0, W0, dv0, dvs0, dus0, d1, _⟩ := ls1.h.dl.da.ex
        have hw := ls1.wa
        have l1 := ls1.len
        refine ⟨_, rfl, x, ddx, _, rfl, d1, K5.dF_no (by decide +kernel), _, rfl, _, rfl, x, ddx, _, rfl, d1, K5.dF_no (by decide +kernel), Z, x, s, rfl, ls1.h.dl.da, _, _, rfl, rfl, b, d, dg, _, 1 + s.wa.length, rfl, ls1.h.box, by omega, fun HE tq tn n4 bs4 ntq etq okt ltn => ?_⟩
        have ls2 := ls1.bs bs4
        refine ⟨Z, x, s, tq, tn, rfl, ls2.h.dl.da, etq, ltn, by omega, fun _ HF kz da => ?_, fun bad => (by rw [okt] at bad; cases bad)⟩
        obtain ⟨Z5, dl5, f5⟩ := ls2.h.dl.kz kz da
        refine nxp ⟨two_le, fun t nt => ?_⟩
        have cl : (cutM s tn).st.length = s.st.length := K5.cutL_len tn s.wa 0 s.st
        have hl := ls1.hold.len
        exact mid _ _ ⟨.ref t, _, _, _, lp, R, Rl, El, Z5, cutM s tn, rows, E, y, n4, rfl, by omega, .inr ⟨.cut upd_same, ⟨⟨rows, _, s.cuts, (ls2.h.disk dl5 f5).same (K5.snew (Same.refl _) nt), by show s.cuts ≠ s.cuts + 1; omega, by rw [cl]; exact hl, by omega⟩, ls1.eg, ls1.hy, by rw [cl]; exact ls1.sz, ls1.pre.cut tn, rfl⟩⟩⟩
      refine ⟨_, rfl, rfl, _, rfl, ite2 (fun _ => ?_) (fun _ => ?_)⟩
      · obtain ⟨ddx, S0, W0, dv0, dvs0, dus0, d1, _⟩ := ls1.h.dl.da.ex
        refine ⟨_, rfl, x, ddx, _, rfl, d1, K5.dF_no (by decide +kernel), _, rfl, b, d, dg, _, 40, rfl, ls1.h.box, by decide, fun v1 h4 h5 => ?_⟩
        obtain ⟨j, rfl, hj⟩ := idx (m := 40) h4 h5
        have ls2 := ls1.bs ((Bs.refl ls1.h.box).draw)
        generalize upd HC b (.lst [.ref d, .int ((n' + 1 + 1 : Nat) : Int)]) = HD at *
        refine ⟨_, rfl, b, d, dg, _, 24, rfl, ls2.h.box, by decide, fun HE tq tn n4 bs4 ntq etq okt ltn => ?_⟩
        have ls3 := ls2.bs bs4
        refine ⟨Z, x, s, _, tq, tn, rfl, ls3.h.dl.da, etq, ltn, fun bad => by exfalso; omega, fun m em hm => ⟨fun bad => (by rw [okt] at bad; cases bad), fun _ HF kz da => ?_⟩⟩
        obtain ⟨Z5, dl5, f5⟩ := ls3.h.dl.kz kz da
        exact mid _ _ ⟨.str "none", _, _, _, lp, R, Rl, El, Z5, (⟨s.st, s.wa, s.cuts, some (m, tn)⟩ : DS), rows, E, y, n4, rfl, by omega, .inl ⟨false, .str, ⟨ls3.h.disk dl5 f5, ls1.eg, ls1.hy, ls1.sz, ls1.pre.sc, ls1.hold.sc, ls1.wa, ltn⟩⟩⟩
      refine ⟨_, rfl, rfl, _, rfl, ite2 (fun _ => ?_) (fun _ => ?_)⟩
      · have hw := ls1.wa
        have l1 := ls1.len
        obtain ⟨dx, vs, g1, g2, g3⟩ := ls1.h.lg.ex
        refine ⟨_, rfl, Nat.zero_le _, fun le nle => ?_⟩
        have ls2 := ls1.same (Same.lst (Same.refl _) nle (o := .lst []))
        have g1 := (Same.lst (Same.refl _) nle (o := .lst [])) _ _ g1
        generalize upd HC le (.lst []) = HD at *
        refine ⟨lp, le, dx, x, R, 1, _, _, rfl, g1, .inr ⟨by decide, Z, lp, x, R, dx, s, _, _, rfl, g1, ls2.h.dl, by omega, ls1.tn, fun z => absurd rfl z, fun _ => ⟨fun s' HE Z5 hf dl5 f5 => ?_, fun s' HE Z5 hf dl5 f5 => .inr (.inr ⟨rfl, rfl, fun HF t sF et => ?_⟩)⟩⟩⟩
        · obtain ⟨s9, rfl, e1, e2, e3, e4⟩ := fluM_inr hf
          obtain ⟨p1, p2⟩ := ls1.pre.flush ls1.hold e1 e2
          have fl : (flM s9).st.length = s.st.length := (K5.fl_len _ _).trans (by rw [e1])
          have h5 := ls2.h.disk dl5 f5
          obtain ⟨vl, r1, r2'⟩ := h5.rl
          have lvl := pairLen r2'
          refine nxp ⟨_, rfl, rfl, _, rfl, iteT ⟨_, rfl, Rl, vl, rfl, .inl (SqL.of r1), ?_⟩⟩
          rw [lvl]
          exact mid _ _ ⟨.non, _, _, _, lp, R, Rl, El, Z5, _, rows, E, rows.length, _, rfl, by omega, .inl ⟨false, .non, ⟨by rw [show (flM s9).cuts = s.cuts from e3]; exact h5, ls1.eg, ls1.eg.l, by rw [fl]; exact ls1.sz, p1, p2, Nat.zero_le _, Nat.le_trans e4 ls1.tn⟩⟩⟩
        · have e0 := fluM_inl hf
          subst e0
          have cl : (cutM s (tnS s)).st.length = s.st.length := K5.cutL_len _ s.wa 0 s.st
          have hl := ls1.hold.len
          refine nxp ⟨_, rfl, rfl, _, rfl, iteF ?_⟩
          exact mid _ _ ⟨.ref t, _, _, _, lp, R, Rl, El, Z5, _, rows, E, y, _, rfl, by omega, .inr ⟨.cut et, ⟨⟨rows, _, s.cuts, (ls2.h.disk dl5 f5).same sF, by show s.cuts ≠ s.cuts + 1; omega, by rw [cl]; exact hl, by omega⟩, ls1.eg, ls1.hy, by rw [cl]; exact ls1.sz, ls1.pre.cut _, rfl⟩⟩⟩
      · obtain ⟨vl, r1, r2'⟩ := ls1.h.rl
        have l1 := ls1.len
        have hw := ls1.wa
        have hhl := ls1.hold.len
        have sz := ls1.sz
        refine ⟨_, rfl, _, rfl, b, d, dg, _, Rl, vl, rows, rfl, ls1.h.box, r1, ls1.h.b3.symm, r2', ls1.eg.rows, ls1.eg.pos, by omega, fun HD nD l us xs bD nl el lr rk okD xl grp => ?_⟩
        have ls2 := ls1.bs bD
        have nfl : ¬ Z l := ls1.h.dl.no nl
        have eg2 := ls1.eg.app okD grp
        refine nxp ?_
        refine seq_mid (A := tAsg _ _) (fun σ' H' => ∃ v, σ' = [some (.ref a), some (.ref b), some (.ref x), some (.ref e), some (.ref lp), some (.ref Rl), some (.ref El), some (.int (y : Nat)), some (.int (stp : Nat)), some (.int (0 + (i : Nat))), some (.int r2), some v, some (.ref l), y13, y14] ∧
          ((TV H' v false true ∧ S8 C CL PN PV b d x dg Z H' s lp R Rl El rows E y nD) ∨
            ∃ ct Z' s' rowsL u c, TV H' v ct false ∧ K7.H8 C CL PN PV b d x Rl El lp R dg Z' H' s' rowsL u c rows E nD ∧ H' l = some (.lst us) ∧ LsR H' us xs ∧ l ≠ El ∧ s'.st.length = s.st.length ∧
              ((ct = false ∧ rowsL = rows ++ xs ∧ u = (blkL 0 (rows ++ xs)).length ∧ c = s'.cuts ∧ Pre s' (rows ++ xs) y ∧ Holds s' (rows ++ xs) ∧ s'.wa.length ≤ (blkL 0 (rows ++ xs)).length ∧ (tnS s').length ≤ 1000) ∨ (ct = true ∧ c ≠ s'.cuts ∧ u ≤ s'.st.length ∧ rowsL.length ≤ 1000 ∧ Part s' (rows ++ xs) y ∧ s'.sc = none)))) ?_ (fun mid2 => ?_)
        rotate_left
        · obtain ⟨dx, vs, g1, g2, g3⟩ := ls2.h.lg.ex
          have nll : l ≠ lp := (ne_of el g1 (by intro z; cases z))
          have nlR : l ≠ R := by
            obtain ⟨dx0, vs0, k1, k2, k3⟩ := ls1.h.lg.ex
            exact (ne_of_none k2 nl).symm
          have nlE : l ≠ El := (ne_of_none ls1.h.el nl).symm
          have nt : ∀ {xs : List V}, ∀ ps, (HO.lst xs) ≠ .tbl ps := fun ps z => by cases z
          have eb : (blkL 0 (rows ++ xs)).length = (blkL 0 rows).length + (blkL rows.length xs).length := by rw [blk_app, List.length_append]
          refine ⟨_, rfl, _, rfl, lp, l, dx, x, R, 0, _, _, rfl, g1, .inl ⟨rfl, Z, lp, x, R, l, s, us, rows, xs, _, _, rfl, ls2.h.lg, ls2.h.zl, ls2.h.zr, ne_of g1 g2 (by intro z; cases z), nll, nlR, nfl, ls2.h.dl, el, lr, fun z hz => (rk z hz).rw.b, by omega, by omega, by omega, by omega, ls1.tn, fun z => absurd rfl z, fun _ => ⟨fun big H' sm => .inl ⟨rfl, rfl, fun HF t sF et => ?_⟩, fun fit => ⟨fun s' H' Z' hwr dl' lg' zl' zr' fr => ?_, fun s' H' Z' hwr dl' f' => .inr (.inr ⟨rfl, rfl, fun HF t sF et => ?_⟩)⟩⟩⟩⟩
          · exact mid2 _ _ ⟨.ref t, rfl, .inl ⟨.full et, (ls2.same sm).same sF⟩⟩
          · obtain ⟨w1, w2, w3, w4⟩ := wrM_st _ _ _ hwr
            have fb := fr b _ (ne_of ls2.h.box.1 g1 (by intro z; cases z)) ls2.h.b2 ls2.h.zb nt ls2.h.box.1
            have fd := fr d _ (ne_of ls2.h.box.2.1 g1 (by intro z; cases z)) ls2.h.d2 ls2.h.zd nt ls2.h.box.2.1
            have fl := fr l _ nll nlR nfl nt el
            have h8 := ls2.h.log (lp' := lp) (R' := R) ⟨fb.1, fd.1, ls2.h.box.2.2⟩ fb.2 dl' (fun q o nb n1 n2 z n e => fr q o n1 n2 z n e) lg' zl' zr' (fun q o z n nt e => n)
            refine mid2 _ _ ⟨_, rfl, .inr ⟨false, Z', s', rows ++ xs, _, _, .int _, h8, fl.1, LsR.frX8 ls2.h.dl.nt (fun q xs z e => (fr q _ (ne_of e g1 (by intro z; cases z)) (ne_of e g2 (by intro z; cases z)) z (fun ps z => by cases z) e).1) lr, nlE, by rw [w1], .inl ⟨rfl, rfl, eb.symm, w3.symm, ?_, hold_app ls1.hold fit w1 w2, by rw [w2, List.length_append, plc_len, eb]; omega, Nat.le_trans w4 ls1.tn⟩⟩⟩
            exact ls1.pre.app (k := (plc (blkL 0 rows).length (blkL rows.length xs)).length) (ls1.eg.ok _ ls1.hy).1 fit w1 (by rw [w2, List.take_length])
          · obtain ⟨s1, k, a1, a2, a3, a4⟩ := wrM_inl _ _ _ hwr
            subst a1
            have cl : (cutM s1 (tnS s1)).st.length = s.st.length := (K5.cutL_len _ s1.wa 0 s1.st).trans (by rw [a2])
            have cc : (cutM s1 (tnS s1)).cuts = s.cuts + 1 := by show s1.cuts + 1 = _; rw [a4]
            have fl := f' l _ nfl nt el
            refine mid2 _ _ ⟨_, rfl, .inr ⟨true, Z', _, rows, _, _, .cut et, (ls2.h.disk dl' f').same sF, sF _ _ fl.1, (LsR.fr ls2.h.dl.nt f' lr).keep (fun q xs e => sF q _ e), nlE, cl, .inr ⟨rfl, by rw [cc]; omega, by rw [cl]; exact hhl, by omega, ?_, rfl⟩⟩⟩
            exact (ls1.pre.app (ls1.eg.ok _ ls1.hy).1 fit a2 a3).cut _
        · rintro σ' HE ⟨v, rfl, ⟨tv, lsE⟩ | ⟨ct, Z', s', rowsL, u, c, tv, h8, hl8, hx8, nlE, hst, md⟩⟩
          · refine ⟨_, rfl, two_le, fun t1 nt1 => ?_⟩
            have s9 : Same HE (upd HE t1 (.tup [.str "refused", .str "full"])) := K5.snew (Same.refl _) nt1
            have e9 : upd HE t1 (.tup [.str "refused", .str "full"]) t1 = some (.tup [.str "refused", .str "full"]) := upd_same
            generalize upd HE t1 (.tup [.str "refused", .str "full"]) = HF at *
            have tv9 := tv.same fun q xs e => s9 q _ e
            obtain ⟨dd, p1, p2, p3, p4, p5⟩ := tv9.dp (K := K)
            refine ⟨dd, fullD, p1, two_dp e9, p2, by decide +kernel, ?_⟩
            rw [p5]
            exact ⟨_, rfl, iteF (mid _ _ ⟨v, _, _, _, lp, R, Rl, El, Z, s, rows, E, y, nD, rfl, by omega, .inl ⟨true, tv9, lsE.same s9⟩⟩)⟩
          · refine ⟨_, rfl, two_le, fun t1 nt1 => ?_⟩
            have s9 : Same HE (upd HE t1 (.tup [.str "refused", .str "full"])) := K5.snew (Same.refl _) nt1
            have e9 : upd HE t1 (.tup [.str "refused", .str "full"]) t1 = some (.tup [.str "refused", .str "full"]) := upd_same
            generalize upd HE t1 (.tup [.str "refused", .str "full"]) = HF at *
            have tv9 := tv.same fun q xs e => s9 q _ e
            obtain ⟨dd, p1, p2, p3, p4, p5⟩ := tv9.dp (K := K)
            refine ⟨dd, fullD, p1, two_dp e9, p2, by decide +kernel, ?_⟩
            rw [p5]
            have h9 := h8.same s9
            obtain ⟨vl9, q1, q2⟩ := h9.rl
            have hl9 := s9 _ _ hl8
            have hx9 := hx8.keep fun q xs e => s9 q _ e
            have lv9 := pairLen q2
            have lw9 := pairLen hx9
            refine ⟨_, rfl, iteT ⟨_, rfl, _, rfl, Rl, l, vl9, us, rfl, rfl, q1, hl9, szle (by omega), fun l2 nl2 => ?_⟩⟩
            have sG : Same HF (upd HF l2 (.lst (vl9 ++ us))) := Same.lst (Same.refl _) nl2
            have lrF : LsR HF (vl9 ++ us) (rows ++ xs) := pairApp q2 hx9
            have hA := h9.newR sG nl2 upd_same (lrF.keep fun q xs e => sG q _ e)
            have eG : upd HF l2 (.lst (vl9 ++ us)) l2 = some (.lst (vl9 ++ us)) := upd_same
            generalize upd HF l2 (.lst (vl9 ++ us)) = HG at *
            refine nxp ⟨_, rfl, .inl ⟨rfl, _, SqL.of hA.el⟩, _, rfl, l2, _, rfl, .inl (SqL.of eG), El, _, _, rfl, rfl, hA.el, szlt (by rw [List.length_map]; omega), ?_⟩
            have eN : (E.map fun e : Nat => V.int (e : Int)) ++ [V.int (((vl9 ++ us).length : Nat) : Int)] = (E ++ [(rows ++ xs).length]).map fun e : Nat => V.int (e : Int) := by
              rw [List.map_append, List.length_append, List.length_append, lv9, lw9]
              rfl
            rw [eN]
            have hB := hA.appE (E' := E ++ [(rows ++ xs).length])
            have tvB := tv9.same (H' := upd HG El (.lst ((E ++ [(rows ++ xs).length]).map fun e : Nat => V.int (e : Int)))) fun q xs e => by
              have := sG q _ e
              rw [upd_ne (ne_of this hA.el (by intro z; cases z))]
              exact this
            have yE : y ∈ E ++ [(rows ++ xs).length] := List.mem_append.mpr (.inl ls1.hy)
            rcases md with ⟨rfl, rfl, rfl, rfl, m1, m2, m3, m4⟩ | ⟨rfl, m1, m2, m3, m4, m5⟩
            · exact mid _ _ ⟨v, _, _, _, lp, R, l2, El, Z', s', rows ++ xs, _, y, nD, rfl, by rw [List.length_append]; show E.length + 1 ≤ _; omega, .inl ⟨false, tvB, ⟨hB, eg2, yE, by rw [hst]; exact sz, m1, m2, m3, m4⟩⟩⟩
            · exact mid _ _ ⟨v, _, _, _, lp, R, l2, El, Z', s', rows ++ xs, _, y, nD, rfl, by rw [List.length_append]; show E.length + 1 ≤ _; omega, .inr ⟨tvB, ⟨⟨rowsL, u, c, hB, m1, m2, m3⟩, eg2, yE, by rw [hst]; exact sz, m4, m5⟩⟩⟩
    rintro σ' HD ⟨v, y12, y13, y14, lp, R, Rl, El, Z, s, rows, E, y, n', rfl, hE, cs⟩
    obtain ⟨ct, ft, tv⟩ : ∃ ct ft, TV HD v ct ft := by
      rcases cs with ⟨f, tv, _⟩ | ⟨tv, _⟩
      · exact ⟨_, _, tv⟩
      · exact ⟨_, _, tv⟩
    refine ⟨_, rfl, two_le, fun t1 nt1 => ?_⟩
    have sE : Same HD (upd HD t1 (.tup [.str "refused", .str "dead"])) := K5.snew (Same.refl _) nt1
    have eE : upd HD t1 (.tup [.str "refused", .str "dead"]) t1 = some (.tup [.str "refused", .str "dead"]) := upd_same
    generalize upd HD t1 (.tup [.str "refused", .str "dead"]) = HE at *
    obtain ⟨dd, p1, p2, p3, _, _⟩ := (tv.same fun q xs e => sE q _ e).dp (K := K)
    refine ⟨dd, deadD, p1, two_dp eE, p2, by decide +kernel, ?_⟩
    rw [p3]
    refine ⟨_, rfl, iteF ?_⟩
    have cs2 : ((∃ f, TV HE v false f ∧ S8 C CL PN PV b d x dg Z HE s lp R Rl El rows E y n') ∨ (TV HE v true false ∧ D8 C CL PN PV b d x dg Z HE s lp R Rl El rows E rows E y n')) := by
      rcases cs with ⟨f, tv, l⟩ | ⟨tv, l⟩
      · exact .inl ⟨f, tv.same fun q xs e => sE q _ e, l.same sE⟩
      · exact .inr ⟨tv.same fun q xs e => sE q _ e, l.same sE⟩
    refine nxp ?_
    refine seq_mid (A := tIfS _ _ _) (fun σ' H' => ∃ (v : V) (y12 y13 y14 : Option V) (lp R Rl El : Addr) (Z : Addr → Prop) (s : DS) (rows : List Rec) (E : List Nat) (y n' : Nat), σ' = [some (.ref a), some (.ref b), some (.ref x), some (.ref e), some (.ref lp), some (.ref Rl), some (.ref El), some (.int (y : Nat)), some (.int (stp : Nat)), some (.int (0 + (i : Nat))), some (.int r2), some v, y12, y13, y14] ∧ E.length ≤ i + 2 ∧ S8 C CL PN PV b d x dg Z H' s lp R Rl El rows E y n') ?_ (fun mid => ?_)
    · rintro σ' HF ⟨v, y12, y13, y14, lp, R, Rl, El, Z, s, rows, E, y, n', rfl, hE, ls⟩
      obtain ⟨dx, vs, h1, h2, h3⟩ := ls.h.lg.ex
      obtain ⟨vl, r1, r2'⟩ := ls.h.rl
      refine ⟨_, rfl, lp, dx, _, rfl, h1, lF_no (by decide +kernel), lp, x, R, dx, vs, _, _, rfl, h1, h2, fun D9 nD9 => ?_⟩
      have sD : Same HF (upd HF D9 (.lst vs)) := Same.lst (Same.refl _) nD9
      obtain ⟨dd, k1, k2, k3, k4, k5, k6, k7⟩ := recs_alike (K := K) ls.eg.rows ls.len.2 (upd_same (H := HF) (a := D9) (o := .lst vs)) (sD _ _ r1) (h3.keep fun q xs e => sD q _ e) (r2'.keep fun q xs e => sD q _ e)
      have ls3 := ls.same sD
      refine ⟨_, rfl, .ref D9, .ref Rl, dd, rfl, k1, k2, k3, k4, k5, k6, k7, _, rfl, iteF ?_⟩
      exact ⟨_, _, _, _, _, _, lp, R, Rl, El, Z, s, rows, E, y, n', rfl, hE, ls3⟩
    obtain ⟨ct, ft, tv⟩ : ∃ ct ft, TV HE v ct ft := by
      rcases cs2 with ⟨f, tv, _⟩ | ⟨tv, _⟩
      · exact ⟨_, _, tv⟩
      · exact ⟨_, _, tv⟩
    refine ⟨_, rfl, two_le, fun t2 nt2 => ?_⟩
    have sF : Same HE (upd HE t2 (.tup [.str "refused", .str "cut"])) := K5.snew (Same.refl _) nt2
    have eF : upd HE t2 (.tup [.str "refused", .str "cut"]) t2 = some (.tup [.str "refused", .str "cut"]) := upd_same
    generalize upd HE t2 (.tup [.str "refused", .str "cut"]) = HF at *
    rcases cs2 with ⟨f, tv, l⟩ | ⟨tv, l⟩
    · obtain ⟨dd, p1, p2, p3, p4, _⟩ := (tv.same fun q xs e => sF q _ e).dp (K := K)
      refine ⟨dd, cutD, p1, two_dp eF, p2, by decide +kernel, ?_⟩
      rw [p4]
      exact ⟨_, rfl, iteF (mid _ _ ⟨v, _, _, _, lp, R, Rl, El, Z, s, rows, E, y, n', rfl, hE, l.same sF⟩)⟩
    · obtain ⟨dd, p1, p2, p3, p4, _⟩ := (tv.same fun q xs e => sF q _ e).dp (K := K)
      refine ⟨dd, cutD, p1, two_dp eF, p2, by decide +kernel, ?_⟩
      rw [p4]
      refine ⟨_, rfl, iteT ?_⟩
      have l := l.same sF
      obtain ⟨rowsL, u, c, h8, ne, hu, hrl⟩ := l.ex
      have dhi := h8.dl.da.hi
      have tn0 : tnS s = [] := by unfold tnS; rw [l.sc]
      have wa0 := l.part.wa
      obtain ⟨dx, vs, g1, g2, g3⟩ := h8.lg.ex
      refine ⟨_, rfl, two_le, fun tu ntu => ⟨(by show 1 ≤ sizeLine; decide), fun lu nlu => ?_⟩⟩
      have sG : Same HF (upd (upd HF tu (.tup [.str "update", .int 0])) lu (.lst [.ref tu])) := K5.snew (Same.lst (Same.refl _) ntu) nlu
      have fu : HF lu = none := K5.sfree (Same.lst (Same.refl _) ntu) nlu
      have etu : upd (upd HF tu (.tup [.str "update", .int 0])) lu (.lst [.ref tu]) tu = some (.tup [.str "update", .int 0]) := by rw [upd_ne (fun z => by rw [← z, upd_same] at nlu; cases nlu)]; exact upd_same
      have elu : upd (upd HF tu (.tup [.str "update", .int 0])) lu (.lst [.ref tu]) lu = some (.lst [.ref tu]) := upd_same
      generalize upd (upd HF tu (.tup [.str "update", .int 0])) lu (.lst [.ref tu]) = HG at *
      have h9 := h8.same sG
      refine ⟨lp, lu, dx, x, R, 0, u, c, rfl, sG _ _ g1, .inl ⟨rfl, Z, lp, x, R, lu, s, [.ref tu], rowsL, [.upd 0], u, c, rfl, h9.lg, h9.zl, h9.zr, ne_of g1 g2 (by intro z; cases z), (ne_of_none g1 fu).symm, (ne_of_none g2 fu).symm, h8.dl.no fu, h9.dl, elu, .cons ⟨tu, rfl, tu, etu, fun l e => by cases e⟩ .nil, fun z hz => by rw [List.mem_singleton.mp hz]; exact (rk_upd (by decide)).rw.b, Nat.le_of_ble_eq_true rfl, hrl, hu, by rw [wa0]; exact Nat.zero_le _, by rw [tn0]; exact Nat.zero_le _, fun _ => .inr (.inl ⟨rfl, rfl, fun HH t3 sH eH => ?_⟩), fun z => absurd z.symm ne⟩⟩
      have h10 := h9.same sH
      refine ⟨two_le, fun t4 nt4 => ?_⟩
      have sI : Same HH (upd HH t4 (.tup [.str "refused", .str "dead"])) := K5.snew (Same.refl _) nt4
      have eI : upd HH t4 (.tup [.str "refused", .str "dead"]) t4 = some (.tup [.str "refused", .str "dead"]) := upd_same
      generalize upd HH t4 (.tup [.str "refused", .str "dead"]) = HI at *
      have dde : PyData.eqv deadD deadD = true := by decide +kernel
      refine ⟨deadD, deadD, two_dp (sI _ _ eH), two_dp eI, by decide +kernel, by decide +kernel, ?_⟩
      rw [dde]
      have h11 := h10.same sI
      refine ⟨_, rfl, iteF ⟨_, rfl, Nat.zero_le _, fun le nle => ?_⟩⟩
      have h12 := h11.same (Same.lst (Same.refl _) nle (o := .lst []))
      generalize upd HI le (.lst []) = HJ at *
      obtain ⟨dx2, vs2, j1, j2, j3⟩ := h12.lg.ex
      refine ⟨lp, le, dx2, x, R, 1, _, _, rfl, j1, .inr ⟨by decide, Z, lp, x, R, dx2, s, _, _, rfl, j1, h12.dl, by rw [wa0]; exact Nat.zero_le _, by rw [tn0]; exact Nat.zero_le _, fun _ => .inr (.inl ⟨rfl, rfl, fun HK t5 sK eK => ?_⟩), fun z => absurd z.symm ne⟩⟩
      have h13 := h12.same sK
      refine ⟨two_le, fun t6 nt6 => ?_⟩
      have sL : Same HK (upd HK t6 (.tup [.str "refused", .str "dead"])) := K5.snew (Same.refl _) nt6
      have eL : upd HK t6 (.tup [.str "refused", .str "dead"]) t6 = some (.tup [.str "refused", .str "dead"]) := upd_same
      generalize upd HK t6 (.tup [.str "refused", .str "dead"]) = HL at *
      refine ⟨deadD, deadD, two_dp (sL _ _ eK), two_dp eL, by decide +kernel, by decide +kernel, ?_⟩
      rw [dde]
      have h14 := h13.same sL
      have r0 : R0 C PN PV b d x dg s.st.length Z HL Z HL s rows y n' := ⟨h14.box, h14.zb, h14.zd, h14.dl, FrB.refl _ _ _, l.part, rfl, by rw [tn0]; exact Nat.zero_le _⟩
      refine ⟨_, rfl, iteF (nxp ⟨_, rfl, _, rfl, Z, b, d, x, dg, n', s, rows, E, y, rfl, r0, l.eg, l.hy, dhi, fun HM nM ZM sM lpM RM k hk yk boxM zbM zdM dlM frM lgM zlM zrM lrM freshM preM holdM waM stM tnM => ?_⟩)⟩
      obtain ⟨ek1, ek2, ek3⟩ := l.eg.ok k hk
      have nt : ∀ {xs : List V}, ∀ ps, (HO.lst xs) ≠ .tbl ps := fun ps z => by cases z
      have hM := h14.log (lp' := lpM) (R' := RM) boxM zbM dlM (fun q o nb n1 n2 z n e => frM q o nb z n e) lgM zlM zrM (fun q o z n nt' e => (freshM q o z nt' e).2)
      obtain ⟨dxM, vsM, m1, m2, m3⟩ := hM.lg.ex
      have lvM : vsM.length = k := by rw [pairLen m3, List.length_take]; omega
      refine nxp ⟨_, rfl, lpM, dxM, _, rfl, m1, lF_no (by decide +kernel), lpM, x, RM, dxM, vsM, _, _, rfl, m1, m2, fun D9 nD9 => ⟨D9, vsM, rfl, .inl (SqL.of upd_same), ?_⟩⟩
      rw [lvM]
      have hN := hM.same (Same.lst (Same.refl _) nD9 (o := .lst vsM))
      generalize upd HM D9 (.lst vsM) = HN at *
      obtain ⟨vlN, n1, n2⟩ := hN.rl
      have lvN := pairLen n2
      refine nxp ⟨_, rfl, _, rfl, ?_⟩
      refine ⟨El, _, rfl, .inl (SqL.of hN.el), rfl, flat_ints E, ?_⟩
      rw [inV_mem hk]
      refine ⟨_, rfl, iteF ⟨_, rfl, _, rfl, _, _, rfl, rfl, _, rfl, K5.iteY (decide_eq_true (by omega)) ⟨_, rfl, Rl, vlN, rfl, .inl (SqL.of n1), _, _, rfl, rfl, _, rfl, ?_⟩⟩⟩
      refine K5.iteE (by rw [decide_eq_true (show ((k : Nat) : Int) ≤ ((vlN.length : Nat) : Int) by omega)]; rfl) ?_
      refine nxp ⟨_, rfl, _, rfl, _, rfl, Rl, vlN, rfl, SqL.of n1, fun l3 nl3 => ?_⟩
      rw [cutTn]
      have sO : Same HN (upd HN l3 (.lst (vlN.take k))) := Same.lst (Same.refl _) nl3
      have hO := hN.newR sO nl3 upd_same (LsR.keep (fun q xs e => sO q _ e) (pairTake n2 k))
      generalize upd HN l3 (.lst (vlN.take k)) = HO at *
      refine nxp ⟨_, rfl, El, rfl, ⟨_, SqL.of hO.el⟩, fun l4 nl4 => ?_⟩
      refine lc_it (walk_list (K := K) (a := El) (xs := E.map fun e : Nat => V.int (e : Int))) (fun j H' => Same HO H' ∧ H' l4 = some (.lst (((E.take j).filter fun z => decide (z ≤ k)).map fun e : Nat => V.int (e : Int)))) ⟨Same.lst (Same.refl _) nl4, upd_same⟩ (fun j H' _ pv => SqL.of (pv.1 _ _ hO.el)) (fun j v H2 H3 hj pv y => ?_) (fun H2 pv => ?_)
      · obtain ⟨s2, e4⟩ := pv
        obtain ⟨rfl, hv⟩ := y
        rw [List.getElem?_map, Option.map_eq_some_iff] at hv
        obtain ⟨z, hz, rfl⟩ := hv
        have tk : (E.take (j + 1)).filter (fun z => decide (z ≤ k)) = (E.take j).filter (fun z => decide (z ≤ k)) ++ [z].filter (fun z => decide (z ≤ k)) := by rw [List.take_add_one, hz]; exact List.filter_append ..
        refine ⟨rfl, _, rfl, _, rfl, _, _, rfl, rfl, _, rfl, ?_⟩
        have ll : ((E.take j).filter fun z => decide (z ≤ k)).length ≤ 100 := by
          have := List.length_filter_le (fun z => decide (z ≤ k)) (E.take j)
          rw [List.length_take] at this
          omega
        by_cases zk : z ≤ k
        · refine K5.iteY (decide_eq_true (by omega)) ⟨_, rfl, _, e4, szlt (by rw [List.length_map]; omega), fun q o e => by rw [upd_ne (ne_of_none e nl4)]; exact s2 _ _ e, ?_⟩
          rw [upd_same, tk, List.filter_cons_of_pos (by exact decide_eq_true zk), List.map_append]
          rfl
        · refine K5.iteE (decide_eq_false (by omega)) ⟨s2, ?_⟩
          rw [e4, tk, List.filter_cons_of_neg (by exact fun y => zk (of_decide_eq_true y)), List.filter_nil, List.append_nil]
      obtain ⟨s2, e4⟩ := pv
      rw [List.length_map, List.take_length] at e4
      have hP := hO.newE s2 nl4 e4
      refine nxp ⟨_, rfl, ?_⟩
      have fil := List.length_filter_le (fun z => decide (z ≤ k)) E
      exact mid _ _ ⟨v, _, _, _, lpM, RM, l3, l4, ZM, sM, rows.take k, E.filter (fun z => decide (z ≤ k)), k, nM, rfl, by omega, ⟨hP, l.eg.cut hk, List.mem_filter.mpr ⟨hk, decide_eq_true (Nat.le_refl _)⟩, by rw [stM]; exact l.sz, preM, holdM, by rw [waM]; exact Nat.zero_le _, tnM⟩⟩
end
end K7

set_option maxRecDepth 100000
set_option maxHeartbeats 16000000
namespace K7
open K6 (sAreA sWRec sCallOf sRecOf sRead sSomeV sWVal sNumOf sTwice sAreN sAreE sTextOf sValsOf)
open K4 (sEncR sEncP sDec sChOf)
open K5 (mOInit sTornC sLTorn8 mSched mDInit mRead mWrite mFlush mPend mCuts mCut mIndex mCount mSize)
open PySem hiding Tok code
open PySem.Spec PyProof.Rows GD K1 GS
open L2 hiding rest
open K6 (Rec RecAt RecSm wR spWRec recV recA T2 ST recD RecOK AV aV ok_wval ok_wRec ok_numOf ok_valsOf ok_textOf ok_callOf ok_recOf ok_someV ok_areN ok_areE ok_areAL)
open K4 (Blks BlkV encR iv decO DecV)
open K5 (DS DA Kz grow rdM stepS tnS cutM flM MO TxD TxP TxO passE z32 rLenK call_lenK)
abbrev sLaw : Stmt := sLaw48
def strOf : Value → Option Str
  | .str x _ => some x
  | _ => none
theorem vals_strs : ∀ (l : List Str) (us : List Value), us.map strOf = l.map some → Vals (l.map V.str) us
  | [], [], _ => .nil
  | [], _ :: _, h => by cases h
  | _ :: _, [], h => by cases h
  | x :: l, u :: us, h => by
    have h1 : strOf u = some x := (List.cons.inj h).1
    have h2 : us.map strOf = l.map some := (List.cons.inj h).2
    refine .cons ?_ (vals_strs l us h2)
    cases u with
    | str z t =>
      have e : z = x := Option.some.inj h1
      subst e
      exact ⟨t, rfl⟩
    | _ => cases h1
theorem exmSame {K : PySem.W.Frag} {E : Addr} (hb : PySem.W.subIn K (.ref E) (.type "BaseException") = some true) (hi : PySem.W.isClsIn K E = true) (ht : PySem.W.typeIn K (.ref E) = some (.type "type")) (hs : PySem.W.subIn K (.ref E) (.ref E) = some true) : PySem.W.exmOne K (.ref E) (.ref E) = some true := by
  have hi : (PySem.W.clsIn K E).isSome = true := hi
  unfold PySem.W.exmOne PySem.W.kitCls
  simp [hb, hi, ht, hs]
theorem kit_ref {K : PySem.W.Frag} {t C : Addr} {b : Bool} (ne : (Value.ref t == Value.ref C) = false) (hi : PySem.W.isClsIn K C = true) (ht : PySem.W.typeIn K (.ref C) = some (.type "type")) (h4 : PySem.W.subIn K (.ref t) (.ref C) = some b) : PySem.W.kitOne K (.ref t) (.ref C) = some b := by
  have hi : (PySem.W.clsIn K C).isSome = true := hi
  unfold PySem.W.kitOne PySem.W.kitCls
  simp [ne, hi, ht, h4]
theorem exm_no {K : PySem.W.Frag} {E F : Addr} {b : Bool} (hb : PySem.W.subIn K (.ref E) (.type "BaseException") = some true) (hi : PySem.W.isClsIn K E = true) (ht : PySem.W.typeIn K (.ref E) = some (.type "type")) (hs : PySem.W.subIn K (.ref F) (.ref E) = some b) : PySem.W.exmOne K (.ref F) (.ref E) = some b := by
  have hi : (PySem.W.clsIn K E).isSome = true := hi
  unfold PySem.W.exmOne PySem.W.kitCls
  simp [hb, hi, ht, hs]

theorem end_at {l : PySem.W.OpenLaw} {q : Program} {w : World} {K : PySem.W.Frag} {h : Heap} {mg : Str → Option Value} {fa : Addr} (X : K.In h) (G : h.Ns mainGlobals mg) (hfa : mg "law" = some (.ref fa)) (TB : TabsAt q K mg h)
    {f1 f2 f3 f4 f5 f6 f7 f8 f9 f10 f11 f12 f13 f14 f15 f16 f17 f18 f19 f20 f21 f22 f23 f24 f25 f26 f27 f28 f29 f30 f31 f32 f33 f34 f35 f36 f37 f38 f39 f40 f41 f42 f43 f44 f45 f46 f47 f48 f49 f50 f51 f52 f53 f54 f55 f56 f57 f58 f59 f60 f61 f62 f63 f64 f65 f66 f67 tcN tpN tcV tpV CD CL EP EN EF EK ra EO EM fI ccI cdaI NO : Addr} {od1 an1 od2 an2 od3 an3 od4 an4 od5 an5 od6 an6 od7 an7 od8 an8 od9 an9 od10 an10 od11 an11 od12 an12 od13 an13 od14 an14 od15 an15 od16 an16 od17 an17 od18 an18 od19 an19 od20 an20 od21 an21 od22 an22 od23 an23 od24 an24 od25 an25 od26 an26 od27 an27 od28 an28 od29 an29 od30 an30 od31 an31 od32 an32 od33 an33 od34 an34 od35 an35 od36 an36 od37 an37 od38 an38 od39 an39 od40 an40 od41 an41 od42 an42 od43 an43 od44 an44 od45 an45 od46 an46 od47 an47 od48 an48 od49 an49 od50 an50 od51 an51 od52 an52 od53 an53 od54 an54 od55 an55 od56 an56 od57 an57 od58 an58 od59 an59 od60 an60 od61 an61 od62 an62 od63 an63 od64 an64 od65 an65 od66 an66 od67 an67 tdN tdV dR odI anI ddO cddI cldI : Option Addr} {sl1 sl2 sl3 sl4 sl5 sl6 sl7 sl8 sl9 sl10 sl11 sl12 sl13 sl14 sl15 sl16 sl17 sl18 sl19 sl20 sl21 sl22 sl23 sl24 sl25 sl26 sl27 sl28 sl29 sl30 sl31 sl32 sl33 sl34 sl35 sl36 sl37 sl38 sl39 sl40 sl41 sl42 sl43 sl44 sl45 sl46 sl47 sl48 sl49 sl50 sl51 sl52 sl53 sl54 sl55 sl56 sl57 sl58 sl59 sl60 sl61 sl62 sl63 sl64 sl65 sl66 sl67 tsN tsV sR slI ccsI cslI : Array (Option Value)}
    {oc1 kV1 dc1 pm1 ct1 oc2 kV2 dc2 pm2 ct2 oc3 kV3 dc3 pm3 ct3 oc4 kV4 dc4 pm4 ct4 oc5 kV5 dc5 pm5 ct5 oc6 kV6 dc6 pm6 ct6 oc7 kV7 dc7 pm7 ct7 oc8 kV8 dc8 pm8 ct8 oc9 kV9 dc9 pm9 ct9 oc10 kV10 dc10 pm10 ct10 oc11 kV11 dc11 pm11 ct11 oc12 kV12 dc12 pm12 ct12 oc13 kV13 dc13 pm13 ct13 oc14 kV14 dc14 pm14 ct14 oc15 kV15 dc15 pm15 ct15 oc16 kV16 dc16 pm16 ct16 oc17 kV17 dc17 pm17 ct17 oc18 kV18 dc18 pm18 ct18 oc19 kV19 dc19 pm19 ct19 oc20 kV20 dc20 pm20 ct20 oc21 kV21 dc21 pm21 ct21 oc22 kV22 dc22 pm22 ct22 oc23 kV23 dc23 pm23 ct23 oc24 kV24 dc24 pm24 ct24 oc25 kV25 dc25 pm25 ct25 oc26 kV26 dc26 pm26 ct26 oc27 kV27 dc27 pm27 ct27 oc28 kV28 dc28 pm28 ct28 oc29 kV29 dc29 pm29 ct29 oc30 kV30 dc30 pm30 ct30 oc31 kV31 dc31 pm31 ct31 oc32 kV32 dc32 pm32 ct32 oc33 kV33 dc33 pm33 ct33 oc34 kV34 dc34 pm34 ct34 oc35 kV35 dc35 pm35 ct35 oc36 kV36 dc36 pm36 ct36 oc37 kV37 dc37 pm37 ct37 oc38 kV38 dc38 pm38 ct38 oc39 kV39 dc39 pm39 ct39 oc40 kV40 dc40 pm40 ct40 oc41 kV41 dc41 pm41 ct41 oc42 kV42 dc42 pm42 ct42 oc43 kV43 dc43 pm43 ct43 oc44 kV44 dc44 pm44 ct44 oc45 kV45 dc45 pm45 ct45 oc46 kV46 dc46 pm46 ct46 oc47 kV47 dc47 pm47 ct47 oc48 kV48 dc48 pm48 ct48 oc49 kV49 dc49 pm49 ct49 oc50 kV50 dc50 pm50 ct50 oc51 kV51 dc51 pm51 ct51 oc52 kV52 dc52 pm52 ct52 oc53 kV53 dc53 pm53 ct53 oc54 kV54 dc54 pm54 ct54 oc55 kV55 dc55 pm55 ct55 oc56 kV56 dc56 pm56 ct56 oc57 kV57 dc57 pm57 ct57 oc58 kV58 dc58 pm58 ct58 oc59 kV59 dc59 pm59 ct59 oc60 kV60 dc60 pm60 ct60 oc61 kV61 dc61 pm61 ct61 oc62 kV62 dc62 pm62 ct62 oc63 kV63 dc63 pm63 ct63 oc64 kV64 dc64 pm64 ct64 oc65 kV65 dc65 pm65 ct65 oc66 kV66 dc66 pm66 ct66 oc67 kV67 dc67 pm67 ct67 cd3 cd4 cd5 cd6 cd7 cd8 cd9 cd10 cd11 cd12 cd13 cd14 cd15 cd16 cd17 cd18 cd19 cd20 cd21 cd22 cd23 cd24 cd25 cd26 cd27 cd28 cd29 cd30 cd31 cd32 cd33 cd34 cd35 cd36 cd37 cd38 cd39 cd40 cd41 cd42 cd43 cd44 cd45 cd46 cd47 cd48 cd49 cd50 cd51 cd52 cd53 cd54 cd55 cd56 cd57 cd58 cd59 cd60 cd61 cd62 cd63 cd64 cd65 cd66 cd67 teN teV : Value} {tuN tuV iR vsI : Array Value} {t_BLOCK t_BLOCKS_LEAST t_BLOCKS_MOST t_BYTE_MOST t_NAME_MOST t_NUMBER_MOST t_STRING_MOST t_PIECE t_PIECES_MOST t_MARK t_HEAD t_TEXT_MOST t_ENTRIES_MOST t_CHANGES_MOST t_ARGUMENTS_MOST t_HOLDERS_MOST t_COUNT_MOST t_SCHEDULE_MOST t_CHARACTERS t_LETTERS t_DIGITS t_SIGNS tfI : PySem.Tok} {nR : Nat} {nmO qO fileI : Str} {bsO bmO subO : List Value} {snO : List Str} {abO : Bool} {colO : Option Bool} {k0O k1O k2O k3O k5O : Option Value} {ocI kVI dcI pmI ctI cclI clI : Value}
    (gD : PySem.W.nsIn K mainGlobals "Disk" = some (some (.ref CD)))
    (gL : PySem.W.nsIn K mainGlobals "Log" = some (some (.ref CL)))
    (xP : PySem.W.nsIn K mainGlobals "PowerCut" = some (some (.ref EP)))
    (xN : PySem.W.nsIn K mainGlobals "NotOpen" = some (some (.ref EN)))
    (xF : PySem.W.nsIn K mainGlobals "LogFull" = some (some (.ref EF)))
    (xK : PySem.W.nsIn K mainGlobals "NotKept" = some (some (.ref EK)))
    (a1 : PySem.W.nsIn K mainGlobals "is_name" = some (some (.ref f1)))
    (l1 : K.lookup f1 = some ⟨oc1, od1, .func (PySem.W.fnOf "is_name" "is_name" (defArgs sIsName) (defBody sIsName) (defScope sIsName) .none kV1 dc1 pm1 an1 (.ref tcN) ct1), sl1⟩)
    (c1 : PySem.W.codeIn K (.ref tcN) "is_name" = true)
    (k1 : PySem.W.keepIn K (.ref f1) = true)
    (a2 : PySem.W.nsIn K mainGlobals "is_value" = some (some (.ref f2)))
    (l2 : K.lookup f2 = some ⟨oc2, od2, .func (PySem.W.fnOf "is_value" "is_value" (defArgs sIsValue) (defBody sIsValue) (defScope sIsValue) .none kV2 dc2 pm2 an2 (.ref tcV) ct2), sl2⟩)
    (c2 : PySem.W.codeIn K (.ref tcV) "is_value" = true)
    (k2 : PySem.W.keepIn K (.ref f2) = true)
    (a3 : PySem.W.nsIn K mainGlobals "split" = some (some (.ref f3)))
    (l3 : K.lookup f3 = some ⟨oc3, od3, .func (PySem.W.fnOf "split" "split" (defArgs sSplit) (defBody sSplit) (defScope sSplit) .none kV3 dc3 pm3 an3 cd3 ct3), sl3⟩)
    (c3 : PySem.W.codeIn K cd3 "split" = true)
    (k3 : PySem.W.keepIn K (.ref f3) = true)
    (a4 : PySem.W.nsIn K mainGlobals "token_at" = some (some (.ref f4)))
    (l4 : K.lookup f4 = some ⟨oc4, od4, .func (PySem.W.fnOf "token_at" "token_at" (defArgs sTokenAt) (defBody sTokenAt) (defScope sTokenAt) .none kV4 dc4 pm4 an4 cd4 ct4), sl4⟩)
    (c4 : PySem.W.codeIn K cd4 "token_at" = true)
    (k4 : PySem.W.keepIn K (.ref f4) = true)
    (a5 : PySem.W.nsIn K mainGlobals "word_at" = some (some (.ref f5)))
    (l5 : K.lookup f5 = some ⟨oc5, od5, .func (PySem.W.fnOf "word_at" "word_at" (defArgs sWordAt) (defBody sWordAt) (defScope sWordAt) .none kV5 dc5 pm5 an5 cd5 ct5), sl5⟩)
    (c5 : PySem.W.codeIn K cd5 "word_at" = true)
    (k5 : PySem.W.keepIn K (.ref f5) = true)
    (a6 : PySem.W.nsIn K mainGlobals "number_at" = some (some (.ref f6)))
    (l6 : K.lookup f6 = some ⟨oc6, od6, .func (PySem.W.fnOf "number_at" "number_at" (defArgs sNumberAt) (defBody sNumberAt) (defScope sNumberAt) .none kV6 dc6 pm6 an6 cd6 ct6), sl6⟩)
    (c6 : PySem.W.codeIn K cd6 "number_at" = true)
    (k6 : PySem.W.keepIn K (.ref f6) = true)
    (a7 : PySem.W.nsIn K mainGlobals "string_at" = some (some (.ref f7)))
    (l7 : K.lookup f7 = some ⟨oc7, od7, .func (PySem.W.fnOf "string_at" "string_at" (defArgs sStringAt) (defBody sStringAt) (defScope sStringAt) .none kV7 dc7 pm7 an7 cd7 ct7), sl7⟩)
    (c7 : PySem.W.codeIn K cd7 "string_at" = true)
    (k7 : PySem.W.keepIn K (.ref f7) = true)
    (a8 : PySem.W.nsIn K mainGlobals "end_of_run" = some (some (.ref f8)))
    (l8 : K.lookup f8 = some ⟨oc8, od8, .func (PySem.W.fnOf "end_of_run" "end_of_run" (defArgs sEndOfRun) (defBody sEndOfRun) (defScope sEndOfRun) .none kV8 dc8 pm8 an8 cd8 ct8), sl8⟩)
    (c8 : PySem.W.codeIn K cd8 "end_of_run" = true)
    (k8 : PySem.W.keepIn K (.ref f8) = true)
    (a9 : PySem.W.nsIn K mainGlobals "has_twice" = some (some (.ref f9)))
    (l9 : K.lookup f9 = some ⟨oc9, od9, .func (PySem.W.fnOf "has_twice" "has_twice" (defArgs K6.sTwice) (defBody K6.sTwice) (defScope K6.sTwice) .none kV9 dc9 pm9 an9 cd9 ct9), sl9⟩)
    (c9 : PySem.W.codeIn K cd9 "has_twice" = true)
    (k9 : PySem.W.keepIn K (.ref f9) = true)
    (a10 : PySem.W.nsIn K mainGlobals "are_names" = some (some (.ref f10)))
    (l10 : K.lookup f10 = some ⟨oc10, od10, .func (PySem.W.fnOf "are_names" "are_names" (defArgs sAreN) (defBody sAreN) (defScope sAreN) .none kV10 dc10 pm10 an10 cd10 ct10), sl10⟩)
    (c10 : PySem.W.codeIn K cd10 "are_names" = true)
    (k10 : PySem.W.keepIn K (.ref f10) = true)
    (a11 : PySem.W.nsIn K mainGlobals "are_entries" = some (some (.ref f11)))
    (l11 : K.lookup f11 = some ⟨oc11, od11, .func (PySem.W.fnOf "are_entries" "are_entries" (defArgs sAreE) (defBody sAreE) (defScope sAreE) .none kV11 dc11 pm11 an11 cd11 ct11), sl11⟩)
    (c11 : PySem.W.codeIn K cd11 "are_entries" = true)
    (k11 : PySem.W.keepIn K (.ref f11) = true)
    (a12 : PySem.W.nsIn K mainGlobals "are_arguments" = some (some (.ref f12)))
    (l12 : K.lookup f12 = some ⟨oc12, od12, .func (PySem.W.fnOf "are_arguments" "are_arguments" (defArgs sAreA) (defBody sAreA) (defScope sAreA) .none kV12 dc12 pm12 an12 cd12 ct12), sl12⟩)
    (c12 : PySem.W.codeIn K cd12 "are_arguments" = true)
    (k12 : PySem.W.keepIn K (.ref f12) = true)
    (a13 : PySem.W.nsIn K mainGlobals "write_record" = some (some (.ref f13)))
    (l13 : K.lookup f13 = some ⟨oc13, od13, .func (PySem.W.fnOf "write_record" "write_record" (defArgs sWRec) (defBody sWRec) (defScope sWRec) .none kV13 dc13 pm13 an13 cd13 ct13), sl13⟩)
    (c13 : PySem.W.codeIn K cd13 "write_record" = true)
    (k13 : PySem.W.keepIn K (.ref f13) = true)
    (a14 : PySem.W.nsIn K mainGlobals "write_value" = some (some (.ref f14)))
    (l14 : K.lookup f14 = some ⟨oc14, od14, .func (PySem.W.fnOf "write_value" "write_value" (defArgs sWVal) (defBody sWVal) (defScope sWVal) .none kV14 dc14 pm14 an14 cd14 ct14), sl14⟩)
    (c14 : PySem.W.codeIn K cd14 "write_value" = true)
    (k14 : PySem.W.keepIn K (.ref f14) = true)
    (a15 : PySem.W.nsIn K mainGlobals "read_record" = some (some (.ref f15)))
    (l15 : K.lookup f15 = some ⟨oc15, od15, .func (PySem.W.fnOf "read_record" "read_record" (defArgs sRead) (defBody sRead) (defScope sRead) .none kV15 dc15 pm15 an15 cd15 ct15), sl15⟩)
    (c15 : PySem.W.codeIn K cd15 "read_record" = true)
    (k15 : PySem.W.keepIn K (.ref f15) = true)
    (a16 : PySem.W.nsIn K mainGlobals "record_of" = some (some (.ref f16)))
    (l16 : K.lookup f16 = some ⟨oc16, od16, .func (PySem.W.fnOf "record_of" "record_of" (defArgs sRecOf) (defBody sRecOf) (defScope sRecOf) .none kV16 dc16 pm16 an16 cd16 ct16), sl16⟩)
    (c16 : PySem.W.codeIn K cd16 "record_of" = true)
    (k16 : PySem.W.keepIn K (.ref f16) = true)
    (a17 : PySem.W.nsIn K mainGlobals "text_of" = some (some (.ref f17)))
    (l17 : K.lookup f17 = some ⟨oc17, od17, .func (PySem.W.fnOf "text_of" "text_of" (defArgs sTextOf) (defBody sTextOf) (defScope sTextOf) .none kV17 dc17 pm17 an17 cd17 ct17), sl17⟩)
    (c17 : PySem.W.codeIn K cd17 "text_of" = true)
    (k17 : PySem.W.keepIn K (.ref f17) = true)
    (a18 : PySem.W.nsIn K mainGlobals "call_of" = some (some (.ref f18)))
    (l18 : K.lookup f18 = some ⟨oc18, od18, .func (PySem.W.fnOf "call_of" "call_of" (defArgs sCallOf) (defBody sCallOf) (defScope sCallOf) .none kV18 dc18 pm18 an18 cd18 ct18), sl18⟩)
    (c18 : PySem.W.codeIn K cd18 "call_of" = true)
    (k18 : PySem.W.keepIn K (.ref f18) = true)
    (a19 : PySem.W.nsIn K mainGlobals "number_of" = some (some (.ref f19)))
    (l19 : K.lookup f19 = some ⟨oc19, od19, .func (PySem.W.fnOf "number_of" "number_of" (defArgs sNumOf) (defBody sNumOf) (defScope sNumOf) .none kV19 dc19 pm19 an19 cd19 ct19), sl19⟩)
    (c19 : PySem.W.codeIn K cd19 "number_of" = true)
    (k19 : PySem.W.keepIn K (.ref f19) = true)
    (a20 : PySem.W.nsIn K mainGlobals "values_of" = some (some (.ref f20)))
    (l20 : K.lookup f20 = some ⟨oc20, od20, .func (PySem.W.fnOf "values_of" "values_of" (defArgs sValsOf) (defBody sValsOf) (defScope sValsOf) .none kV20 dc20 pm20 an20 cd20 ct20), sl20⟩)
    (c20 : PySem.W.codeIn K cd20 "values_of" = true)
    (k20 : PySem.W.keepIn K (.ref f20) = true)
    (a21 : PySem.W.nsIn K mainGlobals "_law_cell" = some (some (.ref f21)))
    (l21 : K.lookup f21 = some ⟨oc21, od21, .func (PySem.W.fnOf "_law_cell" "_law_cell" (defArgs sCell) (defBody sCell) (defScope sCell) .none kV21 dc21 pm21 an21 cd21 ct21), sl21⟩)
    (c21 : PySem.W.codeIn K cd21 "_law_cell" = true)
    (k21 : PySem.W.keepIn K (.ref f21) = true)
    (a22 : PySem.W.nsIn K mainGlobals "_law_digits" = some (some (.ref f22)))
    (l22 : K.lookup f22 = some ⟨oc22, od22, .func (PySem.W.fnOf "_law_digits" "_law_digits" (defArgs sDigits) (defBody sDigits) (defScope sDigits) .none kV22 dc22 pm22 an22 cd22 ct22), sl22⟩)
    (c22 : PySem.W.codeIn K cd22 "_law_digits" = true)
    (k22 : PySem.W.keepIn K (.ref f22) = true)
    (a23 : PySem.W.nsIn K mainGlobals "_law_draw" = some (some (.ref f23)))
    (l23 : K.lookup f23 = some ⟨oc23, od23, .func (PySem.W.fnOf "_law_draw" "_law_draw" (defArgs sDraw) (defBody sDraw) (defScope sDraw) .none kV23 dc23 pm23 an23 cd23 ct23), sl23⟩)
    (c23 : PySem.W.codeIn K cd23 "_law_draw" = true)
    (k23 : PySem.W.keepIn K (.ref f23) = true)
    (a24 : PySem.W.nsIn K mainGlobals "_law_alike" = some (some (.ref f24)))
    (l24 : K.lookup f24 = some ⟨oc24, od24, .func (PySem.W.fnOf "_law_alike" "_law_alike" (defArgs sAlike) (defBody sAlike) (defScope sAlike) .none kV24 dc24 pm24 an24 cd24 ct24), sl24⟩)
    (c24 : PySem.W.codeIn K cd24 "_law_alike" = true)
    (k24 : PySem.W.keepIn K (.ref f24) = true)
    (a25 : PySem.W.nsIn K mainGlobals "_law_some_value" = some (some (.ref f25)))
    (l25 : K.lookup f25 = some ⟨oc25, od25, .func (PySem.W.fnOf "_law_some_value" "_law_some_value" (defArgs sSomeV) (defBody sSomeV) (defScope sSomeV) .none kV25 dc25 pm25 an25 cd25 ct25), sl25⟩)
    (c25 : PySem.W.codeIn K cd25 "_law_some_value" = true)
    (k25 : PySem.W.keepIn K (.ref f25) = true)
    (a26 : PySem.W.nsIn K mainGlobals "encode_record" = some (some (.ref f26)))
    (l26 : K.lookup f26 = some ⟨oc26, od26, .func (PySem.W.fnOf "encode_record" "encode_record" (defArgs sEncR) (defBody sEncR) (defScope sEncR) .none kV26 dc26 pm26 an26 cd26 ct26), sl26⟩)
    (c26 : PySem.W.codeIn K cd26 "encode_record" = true)
    (k26 : PySem.W.keepIn K (.ref f26) = true)
    (a27 : PySem.W.nsIn K mainGlobals "encode_piece" = some (some (.ref f27)))
    (l27 : K.lookup f27 = some ⟨oc27, od27, .func (PySem.W.fnOf "encode_piece" "encode_piece" (defArgs sEncP) (defBody sEncP) (defScope sEncP) .none kV27 dc27 pm27 an27 cd27 ct27), sl27⟩)
    (c27 : PySem.W.codeIn K cd27 "encode_piece" = true)
    (k27 : PySem.W.keepIn K (.ref f27) = true)
    (a28 : PySem.W.nsIn K mainGlobals "decode_piece" = some (some (.ref f28)))
    (l28 : K.lookup f28 = some ⟨oc28, od28, .func (PySem.W.fnOf "decode_piece" "decode_piece" (defArgs sDec) (defBody sDec) (defScope sDec) .none kV28 dc28 pm28 an28 cd28 ct28), sl28⟩)
    (c28 : PySem.W.codeIn K cd28 "decode_piece" = true)
    (k28 : PySem.W.keepIn K (.ref f28) = true)
    (a29 : PySem.W.nsIn K mainGlobals "characters_of" = some (some (.ref f29)))
    (l29 : K.lookup f29 = some ⟨oc29, od29, .func (PySem.W.fnOf "characters_of" "characters_of" (defArgs sChOf) (defBody sChOf) (defScope sChOf) .none kV29 dc29 pm29 an29 cd29 ct29), sl29⟩)
    (c29 : PySem.W.codeIn K cd29 "characters_of" = true)
    (k29 : PySem.W.keepIn K (.ref f29) = true)
    (a30 : PySem.W.nsIn K mainGlobals "check_torn" = some (some (.ref f30)))
    (l30 : K.lookup f30 = some ⟨oc30, od30, .func (PySem.W.fnOf "check_torn" "check_torn" (defArgs sTornC) (defBody sTornC) (defScope sTornC) .none kV30 dc30 pm30 an30 cd30 ct30), sl30⟩)
    (c30 : PySem.W.codeIn K cd30 "check_torn" = true)
    (k30 : PySem.W.keepIn K (.ref f30) = true)
    (a31 : PySem.W.nsIn K mainGlobals "check_entries" = some (some (.ref f31)))
    (l31 : K.lookup f31 = some ⟨oc31, od31, .func (PySem.W.fnOf "check_entries" "check_entries" (defArgs sChkE) (defBody sChkE) (defScope sChkE) .none kV31 dc31 pm31 an31 cd31 ct31), sl31⟩)
    (c31 : PySem.W.codeIn K cd31 "check_entries" = true)
    (k31 : PySem.W.keepIn K (.ref f31) = true)
    (a32 : PySem.W.nsIn K mainGlobals "blocks_of" = some (some (.ref f32)))
    (l32 : K.lookup f32 = some ⟨oc32, od32, .func (PySem.W.fnOf "blocks_of" "blocks_of" (defArgs sBlk) (defBody sBlk) (defScope sBlk) .none kV32 dc32 pm32 an32 cd32 ct32), sl32⟩)
    (c32 : PySem.W.codeIn K cd32 "blocks_of" = true)
    (k32 : PySem.W.keepIn K (.ref f32) = true)
    (a33 : PySem.W.nsIn K mainGlobals "format_disk" = some (some (.ref f33)))
    (l33 : K.lookup f33 = some ⟨oc33, od33, .func (PySem.W.fnOf "format_disk" "format_disk" (defArgs sFmt) (defBody sFmt) (defScope sFmt) .none kV33 dc33 pm33 an33 cd33 ct33), sl33⟩)
    (c33 : PySem.W.codeIn K cd33 "format_disk" = true)
    (k33 : PySem.W.keepIn K (.ref f33) = true)
    (a34 : PySem.W.nsIn K mainGlobals "clear" = some (some (.ref f34)))
    (l34 : K.lookup f34 = some ⟨oc34, od34, .func (PySem.W.fnOf "clear" "clear" (defArgs sClear) (defBody sClear) (defScope sClear) .none kV34 dc34 pm34 an34 cd34 ct34), sl34⟩)
    (c34 : PySem.W.codeIn K cd34 "clear" = true)
    (k34 : PySem.W.keepIn K (.ref f34) = true)
    (a35 : PySem.W.nsIn K mainGlobals "open_log" = some (some (.ref f35)))
    (l35 : K.lookup f35 = some ⟨oc35, od35, .func (PySem.W.fnOf "open_log" "open_log" (defArgs sOpen) (defBody sOpen) (defScope sOpen) .none kV35 dc35 pm35 an35 cd35 ct35), sl35⟩)
    (c35 : PySem.W.codeIn K cd35 "open_log" = true)
    (k35 : PySem.W.keepIn K (.ref f35) = true)
    (a36 : PySem.W.nsIn K mainGlobals "readable" = some (some (.ref f36)))
    (l36 : K.lookup f36 = some ⟨oc36, od36, .func (PySem.W.fnOf "readable" "readable" (defArgs sRdb) (defBody sRdb) (defScope sRdb) .none kV36 dc36 pm36 an36 cd36 ct36), sl36⟩)
    (c36 : PySem.W.codeIn K cd36 "readable" = true)
    (k36 : PySem.W.keepIn K (.ref f36) = true)
    (a37 : PySem.W.nsIn K mainGlobals "record_at" = some (some (.ref f37)))
    (l37 : K.lookup f37 = some ⟨oc37, od37, .func (PySem.W.fnOf "record_at" "record_at" (defArgs sRecA) (defBody sRecA) (defScope sRecA) .none kV37 dc37 pm37 an37 cd37 ct37), sl37⟩)
    (c37 : PySem.W.codeIn K cd37 "record_at" = true)
    (k37 : PySem.W.keepIn K (.ref f37) = true)
    (a38 : PySem.W.nsIn K mainGlobals "text_at" = some (some (.ref f38)))
    (l38 : K.lookup f38 = some ⟨oc38, od38, .func (PySem.W.fnOf "text_at" "text_at" (defArgs sTxt) (defBody sTxt) (defScope sTxt) .none kV38 dc38 pm38 an38 cd38 ct38), sl38⟩)
    (c38 : PySem.W.codeIn K cd38 "text_at" = true)
    (k38 : PySem.W.keepIn K (.ref f38) = true)
    (a39 : PySem.W.nsIn K mainGlobals "fits" = some (some (.ref f39)))
    (l39 : K.lookup f39 = some ⟨oc39, od39, .func (PySem.W.fnOf "fits" "fits" (defArgs sFits) (defBody sFits) (defScope sFits) .none kV39 dc39 pm39 an39 cd39 ct39), sl39⟩)
    (c39 : PySem.W.codeIn K cd39 "fits" = true)
    (k39 : PySem.W.keepIn K (.ref f39) = true)
    (a40 : PySem.W.nsIn K mainGlobals "count_whole" = some (some (.ref f40)))
    (l40 : K.lookup f40 = some ⟨oc40, od40, .func (PySem.W.fnOf "count_whole" "count_whole" (defArgs sCW) (defBody sCW) (defScope sCW) .none kV40 dc40 pm40 an40 cd40 ct40), sl40⟩)
    (c40 : PySem.W.codeIn K cd40 "count_whole" = true)
    (k40 : PySem.W.keepIn K (.ref f40) = true)
    (a41 : PySem.W.nsIn K mainGlobals "_law_small_text" = some (some (.ref f41)))
    (l41 : K.lookup f41 = some ⟨oc41, od41, .func (PySem.W.fnOf "_law_small_text" "_law_small_text" (defArgs sSmall) (defBody sSmall) (defScope sSmall) .none kV41 dc41 pm41 an41 cd41 ct41), sl41⟩)
    (c41 : PySem.W.codeIn K cd41 "_law_small_text" = true)
    (k41 : PySem.W.keepIn K (.ref f41) = true)
    (a42 : PySem.W.nsIn K mainGlobals "_law_some_rows" = some (some (.ref f42)))
    (l42 : K.lookup f42 = some ⟨oc42, od42, .func (PySem.W.fnOf "_law_some_rows" "_law_some_rows" (defArgs sRows) (defBody sRows) (defScope sRows) .none kV42 dc42 pm42 an42 cd42 ct42), sl42⟩)
    (c42 : PySem.W.codeIn K cd42 "_law_some_rows" = true)
    (k42 : PySem.W.keepIn K (.ref f42) = true)
    (a43 : PySem.W.nsIn K mainGlobals "_law_entries" = some (some (.ref f43)))
    (l43 : K.lookup f43 = some ⟨oc43, od43, .func (PySem.W.fnOf "_law_entries" "_law_entries" (defArgs sEnt) (defBody sEnt) (defScope sEnt) .none kV43 dc43 pm43 an43 cd43 ct43), sl43⟩)
    (c43 : PySem.W.codeIn K cd43 "_law_entries" = true)
    (k43 : PySem.W.keepIn K (.ref f43) = true)
    (a44 : PySem.W.nsIn K mainGlobals "_law_torn" = some (some (.ref f44)))
    (l44 : K.lookup f44 = some ⟨oc44, od44, .func (PySem.W.fnOf "_law_torn" "_law_torn" (defArgs sLTorn8) (defBody sLTorn8) (defScope sLTorn8) .none kV44 dc44 pm44 an44 cd44 ct44), sl44⟩)
    (c44 : PySem.W.codeIn K cd44 "_law_torn" = true)
    (k44 : PySem.W.keepIn K (.ref f44) = true)
    (a45 : PySem.W.nsIn K mainGlobals "_law_ask_raw" = some (some (.ref f45)))
    (l45 : K.lookup f45 = some ⟨oc45, od45, .func (PySem.W.fnOf "_law_ask_raw" "_law_ask_raw" (defArgs sAskR) (defBody sAskR) (defScope sAskR) .none kV45 dc45 pm45 an45 cd45 ct45), sl45⟩)
    (c45 : PySem.W.codeIn K cd45 "_law_ask_raw" = true)
    (k45 : PySem.W.keepIn K (.ref f45) = true)
    (a46 : PySem.W.nsIn K mainGlobals "_law_ask" = some (some (.ref f46)))
    (l46 : K.lookup f46 = some ⟨oc46, od46, .func (PySem.W.fnOf "_law_ask" "_law_ask" (defArgs sAsk) (defBody sAsk) (defScope sAsk) .none kV46 dc46 pm46 an46 cd46 ct46), sl46⟩)
    (c46 : PySem.W.codeIn K cd46 "_law_ask" = true)
    (k46 : PySem.W.keepIn K (.ref f46) = true)
    (a47 : PySem.W.nsIn K mainGlobals "_law_try" = some (some (.ref f47)))
    (l47 : K.lookup f47 = some ⟨oc47, od47, .func (PySem.W.fnOf "_law_try" "_law_try" (defArgs sTry) (defBody sTry) (defScope sTry) .none kV47 dc47 pm47 an47 cd47 ct47), sl47⟩)
    (c47 : PySem.W.codeIn K cd47 "_law_try" = true)
    (k47 : PySem.W.keepIn K (.ref f47) = true)
    (a48 : PySem.W.nsIn K mainGlobals "_law_reopened" = some (some (.ref f48)))
    (l48 : K.lookup f48 = some ⟨oc48, od48, .func (PySem.W.fnOf "_law_reopened" "_law_reopened" (defArgs sReop) (defBody sReop) (defScope sReop) .none kV48 dc48 pm48 an48 cd48 ct48), sl48⟩)
    (c48 : PySem.W.codeIn K cd48 "_law_reopened" = true)
    (k48 : PySem.W.keepIn K (.ref f48) = true)
    (a49 : PySem.W.nsIn K mainGlobals "law" = some (some (.ref f49)))
    (l49 : K.lookup f49 = some ⟨oc49, od49, .func (PySem.W.fnOf "law" "law" (defArgs sLaw48) (defBody sLaw48) (defScope sLaw48) .none kV49 dc49 pm49 an49 cd49 ct49), sl49⟩)
    (c49 : PySem.W.codeIn K cd49 "law" = true)
    (k49 : PySem.W.keepIn K (.ref f49) = true)
    (a50 : PySem.W.findIn K (.ref CD) "__init__" = some (some (.ref f50)))
    (i50 : PySem.W.isFn K (.ref f50) = true)
    (l50 : K.lookup f50 = some ⟨oc50, od50, .func (PySem.W.fnOf "__init__" "Disk.__init__" (defArgs mDInit) (defBody mDInit) (defScope mDInit) .none kV50 dc50 pm50 an50 cd50 ct50), sl50⟩)
    (c50 : PySem.W.codeIn K cd50 "Disk.__init__" = true)
    (k50 : PySem.W.keepIn K (.ref f50) = true)
    (a51 : PySem.W.findIn K (.ref CD) "read" = some (some (.ref f51)))
    (i51 : PySem.W.isFn K (.ref f51) = true)
    (l51 : K.lookup f51 = some ⟨oc51, od51, .func (PySem.W.fnOf "read" "Disk.read" (defArgs mRead) (defBody mRead) (defScope mRead) .none kV51 dc51 pm51 an51 cd51 ct51), sl51⟩)
    (c51 : PySem.W.codeIn K cd51 "Disk.read" = true)
    (k51 : PySem.W.keepIn K (.ref f51) = true)
    (a52 : PySem.W.findIn K (.ref CD) "write" = some (some (.ref f52)))
    (i52 : PySem.W.isFn K (.ref f52) = true)
    (l52 : K.lookup f52 = some ⟨oc52, od52, .func (PySem.W.fnOf "write" "Disk.write" (defArgs mWrite) (defBody mWrite) (defScope mWrite) .none kV52 dc52 pm52 an52 cd52 ct52), sl52⟩)
    (c52 : PySem.W.codeIn K cd52 "Disk.write" = true)
    (k52 : PySem.W.keepIn K (.ref f52) = true)
    (a53 : PySem.W.findIn K (.ref CD) "flush" = some (some (.ref f53)))
    (i53 : PySem.W.isFn K (.ref f53) = true)
    (l53 : K.lookup f53 = some ⟨oc53, od53, .func (PySem.W.fnOf "flush" "Disk.flush" (defArgs mFlush) (defBody mFlush) (defScope mFlush) .none kV53 dc53 pm53 an53 cd53 ct53), sl53⟩)
    (c53 : PySem.W.codeIn K cd53 "Disk.flush" = true)
    (k53 : PySem.W.keepIn K (.ref f53) = true)
    (a54 : PySem.W.findIn K (.ref CD) "pending_count" = some (some (.ref f54)))
    (i54 : PySem.W.isFn K (.ref f54) = true)
    (l54 : K.lookup f54 = some ⟨oc54, od54, .func (PySem.W.fnOf "pending_count" "Disk.pending_count" (defArgs mPend) (defBody mPend) (defScope mPend) .none kV54 dc54 pm54 an54 cd54 ct54), sl54⟩)
    (c54 : PySem.W.codeIn K cd54 "Disk.pending_count" = true)
    (k54 : PySem.W.keepIn K (.ref f54) = true)
    (a55 : PySem.W.findIn K (.ref CD) "cut_count" = some (some (.ref f55)))
    (i55 : PySem.W.isFn K (.ref f55) = true)
    (l55 : K.lookup f55 = some ⟨oc55, od55, .func (PySem.W.fnOf "cut_count" "Disk.cut_count" (defArgs mCuts) (defBody mCuts) (defScope mCuts) .none kV55 dc55 pm55 an55 cd55 ct55), sl55⟩)
    (c55 : PySem.W.codeIn K cd55 "Disk.cut_count" = true)
    (k55 : PySem.W.keepIn K (.ref f55) = true)
    (a56 : PySem.W.findIn K (.ref CD) "cut_power" = some (some (.ref f56)))
    (i56 : PySem.W.isFn K (.ref f56) = true)
    (l56 : K.lookup f56 = some ⟨oc56, od56, .func (PySem.W.fnOf "cut_power" "Disk.cut_power" (defArgs mCut) (defBody mCut) (defScope mCut) .none kV56 dc56 pm56 an56 cd56 ct56), sl56⟩)
    (c56 : PySem.W.codeIn K cd56 "Disk.cut_power" = true)
    (k56 : PySem.W.keepIn K (.ref f56) = true)
    (a57 : PySem.W.findIn K (.ref CD) "check_index" = some (some (.ref f57)))
    (i57 : PySem.W.isFn K (.ref f57) = true)
    (l57 : K.lookup f57 = some ⟨oc57, od57, .func (PySem.W.fnOf "check_index" "Disk.check_index" (defArgs mIndex) (defBody mIndex) (defScope mIndex) .none kV57 dc57 pm57 an57 cd57 ct57), sl57⟩)
    (c57 : PySem.W.codeIn K cd57 "Disk.check_index" = true)
    (k57 : PySem.W.keepIn K (.ref f57) = true)
    (a58 : PySem.W.findIn K (.ref CD) "count_action" = some (some (.ref f58)))
    (i58 : PySem.W.isFn K (.ref f58) = true)
    (l58 : K.lookup f58 = some ⟨oc58, od58, .func (PySem.W.fnOf "count_action" "Disk.count_action" (defArgs mCount) (defBody mCount) (defScope mCount) .none kV58 dc58 pm58 an58 cd58 ct58), sl58⟩)
    (c58 : PySem.W.codeIn K cd58 "Disk.count_action" = true)
    (k58 : PySem.W.keepIn K (.ref f58) = true)
    (a59 : PySem.W.findIn K (.ref CD) "size" = some (some (.ref f59)))
    (i59 : PySem.W.isFn K (.ref f59) = true)
    (l59 : K.lookup f59 = some ⟨oc59, od59, .func (PySem.W.fnOf "size" "Disk.size" (defArgs mSize) (defBody mSize) (defScope mSize) .none kV59 dc59 pm59 an59 cd59 ct59), sl59⟩)
    (c59 : PySem.W.codeIn K cd59 "Disk.size" = true)
    (k59 : PySem.W.keepIn K (.ref f59) = true)
    (a60 : PySem.W.findIn K (.ref CD) "schedule_cut" = some (some (.ref f60)))
    (i60 : PySem.W.isFn K (.ref f60) = true)
    (l60 : K.lookup f60 = some ⟨oc60, od60, .func (PySem.W.fnOf "schedule_cut" "Disk.schedule_cut" (defArgs mSched) (defBody mSched) (defScope mSched) .none kV60 dc60 pm60 an60 cd60 ct60), sl60⟩)
    (c60 : PySem.W.codeIn K cd60 "Disk.schedule_cut" = true)
    (k60 : PySem.W.keepIn K (.ref f60) = true)
    (a61 : PySem.W.findIn K (.ref CL) "__init__" = some (some (.ref f61)))
    (i61 : PySem.W.isFn K (.ref f61) = true)
    (l61 : K.lookup f61 = some ⟨oc61, od61, .func (PySem.W.fnOf "__init__" "Log.__init__" (defArgs mLInit) (defBody mLInit) (defScope mLInit) .none kV61 dc61 pm61 an61 cd61 ct61), sl61⟩)
    (c61 : PySem.W.codeIn K cd61 "Log.__init__" = true)
    (k61 : PySem.W.keepIn K (.ref f61) = true)
    (a62 : PySem.W.findIn K (.ref CL) "records" = some (some (.ref f62)))
    (i62 : PySem.W.isFn K (.ref f62) = true)
    (l62 : K.lookup f62 = some ⟨oc62, od62, .func (PySem.W.fnOf "records" "Log.records" (defArgs mRecs) (defBody mRecs) (defScope mRecs) .none kV62 dc62 pm62 an62 cd62 ct62), sl62⟩)
    (c62 : PySem.W.codeIn K cd62 "Log.records" = true)
    (k62 : PySem.W.keepIn K (.ref f62) = true)
    (a63 : PySem.W.findIn K (.ref CL) "append" = some (some (.ref f63)))
    (i63 : PySem.W.isFn K (.ref f63) = true)
    (l63 : K.lookup f63 = some ⟨oc63, od63, .func (PySem.W.fnOf "append" "Log.append" (defArgs mApp) (defBody mApp) (defScope mApp) .none kV63 dc63 pm63 an63 cd63 ct63), sl63⟩)
    (c63 : PySem.W.codeIn K cd63 "Log.append" = true)
    (k63 : PySem.W.keepIn K (.ref f63) = true)
    (a64 : PySem.W.findIn K (.ref CL) "sync" = some (some (.ref f64)))
    (i64 : PySem.W.isFn K (.ref f64) = true)
    (l64 : K.lookup f64 = some ⟨oc64, od64, .func (PySem.W.fnOf "sync" "Log.sync" (defArgs mSync) (defBody mSync) (defScope mSync) .none kV64 dc64 pm64 an64 cd64 ct64), sl64⟩)
    (c64 : PySem.W.codeIn K cd64 "Log.sync" = true)
    (k64 : PySem.W.keepIn K (.ref f64) = true)
    (a65 : PySem.W.findIn K (.ref CL) "free_blocks" = some (some (.ref f65)))
    (i65 : PySem.W.isFn K (.ref f65) = true)
    (l65 : K.lookup f65 = some ⟨oc65, od65, .func (PySem.W.fnOf "free_blocks" "Log.free_blocks" (defArgs mFree) (defBody mFree) (defScope mFree) .none kV65 dc65 pm65 an65 cd65 ct65), sl65⟩)
    (c65 : PySem.W.codeIn K cd65 "Log.free_blocks" = true)
    (k65 : PySem.W.keepIn K (.ref f65) = true)
    (a66 : PySem.W.findIn K (.ref CL) "is_open" = some (some (.ref f66)))
    (i66 : PySem.W.isFn K (.ref f66) = true)
    (l66 : K.lookup f66 = some ⟨oc66, od66, .func (PySem.W.fnOf "is_open" "Log.is_open" (defArgs mIsOpen) (defBody mIsOpen) (defScope mIsOpen) .none kV66 dc66 pm66 an66 cd66 ct66), sl66⟩)
    (c66 : PySem.W.codeIn K cd66 "Log.is_open" = true)
    (k66 : PySem.W.keepIn K (.ref f66) = true)
    (a67 : PySem.W.findIn K (.ref CL) "check_open" = some (some (.ref f67)))
    (i67 : PySem.W.isFn K (.ref f67) = true)
    (l67 : K.lookup f67 = some ⟨oc67, od67, .func (PySem.W.fnOf "check_open" "Log.check_open" (defArgs mChk) (defBody mChk) (defScope mChk) .none kV67 dc67 pm67 an67 cd67 ct67), sl67⟩)
    (c67 : PySem.W.codeIn K cd67 "Log.check_open" = true)
    (k67 : PySem.W.keepIn K (.ref f67) = true)
    (pgD : PySem.W.plainGet K CD Str.empty = true)
    (hdD : PySem.W.hasDictIn K CD = true)
    (poD : PySem.W.plainOver K CD = true)
    (saD : PySem.W.findIn K (.ref CD) "__setattr__" = some (some (.builtin "object.__setattr__")))
    (mkD : PySem.W.makesIn K CD = true)
    (kcD : PySem.W.keepIn K (.ref CD) = true)
    (naD0 : PySem.W.findIn K (.ref CD) "stored" = some none)
    (naD1 : PySem.W.findIn K (.ref CD) "waiting" = some none)
    (naD2 : PySem.W.findIn K (.ref CD) "cuts" = some none)
    (naD3 : PySem.W.findIn K (.ref CD) "scheduled" = some none)
    (pgL : PySem.W.plainGet K CL Str.empty = true)
    (hdL : PySem.W.hasDictIn K CL = true)
    (poL : PySem.W.plainOver K CL = true)
    (saL : PySem.W.findIn K (.ref CL) "__setattr__" = some (some (.builtin "object.__setattr__")))
    (mkL : PySem.W.makesIn K CL = true)
    (kcL : PySem.W.keepIn K (.ref CL) = true)
    (naL0 : PySem.W.findIn K (.ref CL) "disk" = some none)
    (naL1 : PySem.W.findIn K (.ref CL) "rows" = some none)
    (naL2 : PySem.W.findIn K (.ref CL) "used" = some none)
    (naL3 : PySem.W.findIn K (.ref CL) "cuts" = some none)
    (exP : PySem.W.excIn K EP [.type "ValueError", .type "Exception", .type "BaseException", .type "object"] "ValueError.__new__" = true)
    (ekP : PySem.W.keepIn K (.ref EP) = true)
    (ebP : PySem.W.subIn K (.ref EP) (.type "BaseException") = some true)
    (etP : PySem.W.typeIn K (.ref EP) = some (.type "type"))
    (eiP : PySem.W.isClsIn K EP = true)
    (esP : PySem.W.subIn K (.ref EP) (.ref EP) = some true)
    (exN : PySem.W.excIn K EN [.type "ValueError", .type "Exception", .type "BaseException", .type "object"] "ValueError.__new__" = true)
    (ekN : PySem.W.keepIn K (.ref EN) = true)
    (ebN : PySem.W.subIn K (.ref EN) (.type "BaseException") = some true)
    (etN : PySem.W.typeIn K (.ref EN) = some (.type "type"))
    (eiN : PySem.W.isClsIn K EN = true)
    (esN : PySem.W.subIn K (.ref EN) (.ref EN) = some true)
    (exF : PySem.W.excIn K EF [.type "ValueError", .type "Exception", .type "BaseException", .type "object"] "ValueError.__new__" = true)
    (ekF : PySem.W.keepIn K (.ref EF) = true)
    (ebF : PySem.W.subIn K (.ref EF) (.type "BaseException") = some true)
    (etF : PySem.W.typeIn K (.ref EF) = some (.type "type"))
    (eiF : PySem.W.isClsIn K EF = true)
    (esF : PySem.W.subIn K (.ref EF) (.ref EF) = some true)
    (exK : PySem.W.excIn K EK [.type "ValueError", .type "Exception", .type "BaseException", .type "object"] "ValueError.__new__" = true)
    (ekK : PySem.W.keepIn K (.ref EK) = true)
    (ebK : PySem.W.subIn K (.ref EK) (.type "BaseException") = some true)
    (etK : PySem.W.typeIn K (.ref EK) = some (.type "type"))
    (eiK : PySem.W.isClsIn K EK = true)
    (esK : PySem.W.subIn K (.ref EK) (.ref EK) = some true)
    (z_len : PySem.W.nsIn K mainGlobals "len" = some none)
    (z_range : PySem.W.nsIn K mainGlobals "range" = some none)
    (z_bint : PySem.W.nsIn K mainGlobals "int" = some none)
    (z_bstr : PySem.W.nsIn K mainGlobals "str" = some none)
    (z_bbool : PySem.W.nsIn K mainGlobals "bool" = some none)
    (z_blist : PySem.W.nsIn K mainGlobals "list" = some none)
    (z_repr : PySem.W.nsIn K mainGlobals "repr" = some none)
    (z_isinstance : PySem.W.nsIn K mainGlobals "isinstance" = some none)
    (z_ord : PySem.W.nsIn K mainGlobals "ord" = some none)
    (z_all : PySem.W.nsIn K mainGlobals "all" = some none)
    (z_btuple : PySem.W.nsIn K mainGlobals "tuple" = some none)
    (z_bset : PySem.W.nsIn K mainGlobals "set" = some none)
    (z_enumerate : PySem.W.nsIn K mainGlobals "enumerate" = some none)
    (z_max : PySem.W.nsIn K mainGlobals "max" = some none)
    (z_min : PySem.W.nsIn K mainGlobals "min" = some none)
    (z_super : PySem.W.nsIn K mainGlobals "super" = some none)
    (z_any : PySem.W.nsIn K mainGlobals "any" = some none)
    (y_BLOCK : PySem.W.nsIn K mainGlobals "BLOCK" = some (some (.int 32 t_BLOCK)))
    (y_BLOCKS_LEAST : PySem.W.nsIn K mainGlobals "BLOCKS_LEAST" = some (some (.int 8 t_BLOCKS_LEAST)))
    (y_BLOCKS_MOST : PySem.W.nsIn K mainGlobals "BLOCKS_MOST" = some (some (.int 400 t_BLOCKS_MOST)))
    (y_BYTE_MOST : PySem.W.nsIn K mainGlobals "BYTE_MOST" = some (some (.int 255 t_BYTE_MOST)))
    (y_NAME_MOST : PySem.W.nsIn K mainGlobals "NAME_MOST" = some (some (.int 6 t_NAME_MOST)))
    (y_NUMBER_MOST : PySem.W.nsIn K mainGlobals "NUMBER_MOST" = some (some (.int 99999 t_NUMBER_MOST)))
    (y_STRING_MOST : PySem.W.nsIn K mainGlobals "STRING_MOST" = some (some (.int 20 t_STRING_MOST)))
    (y_PIECE : PySem.W.nsIn K mainGlobals "PIECE" = some (some (.int 24 t_PIECE)))
    (y_PIECES_MOST : PySem.W.nsIn K mainGlobals "PIECES_MOST" = some (some (.int 30 t_PIECES_MOST)))
    (y_MARK : PySem.W.nsIn K mainGlobals "MARK" = some (some (.int 83 t_MARK)))
    (y_HEAD : PySem.W.nsIn K mainGlobals "HEAD" = some (some (.int 6 t_HEAD)))
    (y_TEXT_MOST : PySem.W.nsIn K mainGlobals "TEXT_MOST" = some (some (.int 600 t_TEXT_MOST)))
    (y_ENTRIES_MOST : PySem.W.nsIn K mainGlobals "ENTRIES_MOST" = some (some (.int 3 t_ENTRIES_MOST)))
    (y_CHANGES_MOST : PySem.W.nsIn K mainGlobals "CHANGES_MOST" = some (some (.int 8 t_CHANGES_MOST)))
    (y_ARGUMENTS_MOST : PySem.W.nsIn K mainGlobals "ARGUMENTS_MOST" = some (some (.int 3 t_ARGUMENTS_MOST)))
    (y_HOLDERS_MOST : PySem.W.nsIn K mainGlobals "HOLDERS_MOST" = some (some (.int 3 t_HOLDERS_MOST)))
    (y_COUNT_MOST : PySem.W.nsIn K mainGlobals "COUNT_MOST" = some (some (.int 9999 t_COUNT_MOST)))
    (y_SCHEDULE_MOST : PySem.W.nsIn K mainGlobals "SCHEDULE_MOST" = some (some (.int 100000 t_SCHEDULE_MOST)))
    (y_CHARACTERS : PySem.W.nsIn K mainGlobals "CHARACTERS" = some (some (.str " !\"#$&'()*+,-./0123456789:;<=>?@ABCDEFGHIJKLMNOPQRSTUVWXYZ[\\]^_`abcdefghijklmnopqrstuvwxyz{|}~" t_CHARACTERS)))
    (y_LETTERS : PySem.W.nsIn K mainGlobals "LETTERS" = some (some (.str "abcdefghijklmnopqrstuvwxyz" t_LETTERS)))
    (y_DIGITS : PySem.W.nsIn K mainGlobals "DIGITS" = some (some (.str "0123456789" t_DIGITS)))
    (y_SIGNS : PySem.W.nsIn K mainGlobals "SIGNS" = some (some (.str "(),;+-*<=" t_SIGNS)))
    (uRA : PySem.W.nsIn K mainGlobals "RESERVED" = some (some (.ref ra)))
    (uRL : K.lookup ra = some ⟨.type "tuple", dR, .seq iR nR, sR⟩)
    (uRZ : iR.size ≤ sizeLine)
    (uRV : iR.toList.map strOf = kw13.map some)
    (hdP : PySem.W.hasDictIn K EP = true)
    (hgP : PySem.W.findIn K (.ref EP) "__getattribute__" = some (some (.builtin "BaseException.__getattribute__")))
    (hkP : PySem.W.findIn K (.ref EP) "__getattr__" = some none)
    (haP : PySem.W.findIn K (.ref EP) "__class__" = some (some (.builtin "object.__class__")))
    (hnP : PySem.W.specialIn K (.builtin "object.__class__") "__get__" = some (some (.builtin "getset_descriptor.__get__")))
    (htP : PySem.W.takesIn K (.builtin "object.__class__") = some true)
    (hmP : PySem.W.mroIn K EP (.type "object") = some true)
    (gO : PySem.W.nsIn K mainGlobals "OutOfRange" = some (some (.ref EO)))
    (gM : PySem.W.nsIn K mainGlobals "ModuleError" = some (some (.ref EM)))
    (xLO : K.lookup EO = some (excClassObj nmO qO EO NO bsO bmO true snO subO abO colO ddO k0O k1O k2O k3O k5O "ValueError.__new__"))
    (rO : PySem.HandSPX.refsVE bmO = true)
    (saO : PySem.W.findIn K (.ref EO) "__setattr__" = some (some (.builtin "object.__setattr__")))
    (gaO : PySem.W.findIn K (.ref EO) "__getattribute__" = some (some (.builtin "BaseException.__getattribute__")))
    (ggO : PySem.W.findIn K (.ref EO) "__getattr__" = some none)
    (nnO : PySem.W.findIn K (.ref EO) "name" = some none)
    (iO : PySem.W.findIn K (.ref EO) "__init__" = some (some (.ref fI)))
    (tyI : PySem.W.typeIn K (.ref fI) = some (.type "function"))
    (kCO : PySem.W.keepIn K (.ref EO) = true)
    (eCO : PySem.W.subIn K (.ref EO) (.type "BaseException") = some true)
    (tCO : PySem.W.typeIn K (.ref EO) = some (.type "type"))
    (hdO : PySem.W.hasDictIn K EO = true)
    (icO : PySem.W.isClsIn K EO = true)
    (sCO : PySem.W.subIn K (.ref EO) (.ref EO) = some true)
    (lI : K.lookup fI = some ⟨ocI, odI, .func (PySem.W.ksFn "__init__" "OutOfRange.__init__" (defArgs mOInit) (defBody mOInit) (defScope mOInit) .none kVI dcI pmI anI (.ref cdaI) ctI ccI), slI⟩)
    (cI : PySem.W.codeIn K (.ref cdaI) "OutOfRange.__init__" = true)
    (liI : K.lookup cdaI = some ⟨cclI, cddI, .fields vsI, ccsI⟩)
    (fvI : vsI[2]? = some (.str fileI tfI))
    (ffI : ((l.prog.main.file : Str) == fileI) = true)
    (ceI : K.lookup ccI = some ⟨clI, cldI, .cell (some (.ref EO)), cslI⟩)
    (mrO : PySem.W.mroIn K EO (.ref EO) = some true)
    (opq : PySem.W.nsIn K cStatics "thirdparty.any" = some none)
    (inS : PySem.W.ks_superIn K EO EO "__init__" = some (some (.builtin "ValueError.__init__")))
    (sOP : PySem.W.subIn K (.ref EO) (.ref EP) = some false)
    (sPM : PySem.W.subIn K (.ref EP) (.ref EM) = some true)
    (sPO : PySem.W.subIn K (.ref EP) (.ref EO) = some false)
    (tyM : PySem.W.typeIn K (.ref EM) = some (.type "type"))
    (icM : PySem.W.isClsIn K EM = true)
    (nPM : (Value.ref EP == Value.ref EM) = false)
    (nPO : (Value.ref EP == Value.ref EO) = false)
    (isVE : PySem.W.subIn K (.ref EO) (.type "ValueError") = some true)
    (topN : (l.prog.main.scope.names.lookup ("super" : Str)).isSome = false)
    (sNF : PySem.W.subIn K (.ref EN) (.ref EF) = some false)
    (sPF : PySem.W.subIn K (.ref EP) (.ref EF) = some false)
    (sPN : PySem.W.subIn K (.ref EP) (.ref EN) = some false)
    (tlN : K.lookup tcN = some ⟨teN, tdN, .fields tuN, tsN⟩)
    (tkN : tuN[11]? = some (.ref tpN))
    (toN : K.lookup tpN = none)
    (tqN : ((recsOf q).any fun r => r.name == ("is_name" : Str)) = true)
    (tlV : K.lookup tcV = some ⟨teV, tdV, .fields tuV, tsV⟩)
    (tkV : tuV[11]? = some (.ref tpV))
    (toV : K.lookup tpV = none)
    (tqV : ((recsOf q).any fun r => r.name == ("is_value" : Str)) = true)
    (nNV : tpN ≠ tpV) :
    LawG l w K CX0 15 63 "script" mg fa h := by
  have g : ∀ {x : Str} {v : Value}, PySem.W.nsIn K mainGlobals x = some (some v) → mg x = some v := fun e => PySem.W.mg_of X G e
  have gz : ∀ {x : Str}, PySem.W.nsIn K mainGlobals x = some none → mg x = none := fun e => PySem.W.mg_none_of X G e
  have e := hfa.symm.trans (g a49)
  cases e
  have F1 := fun_mk (st := sIsName) l1 c1 k1
  have b1 := F1.binds (ps := ["text"]) fun _ _ _ _ _ _ us hl => match us, hl with | [_], _ => rfl
  have F2 := fun_mk (st := sIsValue) l2 c2 k2
  have b2 := F2.binds (ps := ["value"]) fun _ _ _ _ _ _ us hl => match us, hl with | [_], _ => rfl
  have F3 := fun_mk (st := sSplit) l3 c3 k3
  have b3 := F3.binds (ps := ["line"]) fun _ _ _ _ _ _ us hl => match us, hl with | [_], _ => rfl
  have F4 := fun_mk (st := sTokenAt) l4 c4 k4
  have b4 := F4.binds (ps := ["line", "at"]) fun _ _ _ _ _ _ us hl => match us, hl with | [_, _], _ => rfl
  have F5 := fun_mk (st := sWordAt) l5 c5 k5
  have b5 := F5.binds (ps := ["line", "at"]) fun _ _ _ _ _ _ us hl => match us, hl with | [_, _], _ => rfl
  have F6 := fun_mk (st := sNumberAt) l6 c6 k6
  have b6 := F6.binds (ps := ["line", "at"]) fun _ _ _ _ _ _ us hl => match us, hl with | [_, _], _ => rfl
  have F7 := fun_mk (st := sStringAt) l7 c7 k7
  have b7 := F7.binds (ps := ["line", "at"]) fun _ _ _ _ _ _ us hl => match us, hl with | [_, _], _ => rfl
  have F8 := fun_mk (st := sEndOfRun) l8 c8 k8
  have b8 := F8.binds (ps := ["line", "at", "characters"]) fun _ _ _ _ _ _ us hl => match us, hl with | [_, _, _], _ => rfl
  have F9 := fun_mk (st := K6.sTwice) l9 c9 k9
  have b9 := F9.binds (ps := ["names"]) fun _ _ _ _ _ _ us hl => match us, hl with | [_], _ => rfl
  have F10 := fun_mk (st := sAreN) l10 c10 k10
  have b10 := F10.binds (ps := ["texts", "most"]) fun _ _ _ _ _ _ us hl => match us, hl with | [_, _], _ => rfl
  have F11 := fun_mk (st := sAreE) l11 c11 k11
  have b11 := F11.binds (ps := ["names"]) fun _ _ _ _ _ _ us hl => match us, hl with | [_], _ => rfl
  have F12 := fun_mk (st := sAreA) l12 c12 k12
  have b12 := F12.binds (ps := ["values"]) fun _ _ _ _ _ _ us hl => match us, hl with | [_], _ => rfl
  have F13 := fun_mk (st := sWRec) l13 c13 k13
  have b13 := F13.binds (ps := ["record"]) fun _ _ _ _ _ _ us hl => match us, hl with | [_], _ => rfl
  have F14 := fun_mk (st := sWVal) l14 c14 k14
  have b14 := F14.binds (ps := ["value"]) fun _ _ _ _ _ _ us hl => match us, hl with | [_], _ => rfl
  have F15 := fun_mk (st := sRead) l15 c15 k15
  have b15 := F15.binds (ps := ["text"]) fun _ _ _ _ _ _ us hl => match us, hl with | [_], _ => rfl
  have F16 := fun_mk (st := sRecOf) l16 c16 k16
  have b16 := F16.binds (ps := ["word", "rest"]) fun _ _ _ _ _ _ us hl => match us, hl with | [_, _], _ => rfl
  have F17 := fun_mk (st := sTextOf) l17 c17 k17
  have b17 := F17.binds (ps := ["rest"]) fun _ _ _ _ _ _ us hl => match us, hl with | [_], _ => rfl
  have F18 := fun_mk (st := sCallOf) l18 c18 k18
  have b18 := F18.binds (ps := ["rest"]) fun _ _ _ _ _ _ us hl => match us, hl with | [_], _ => rfl
  have F19 := fun_mk (st := sNumOf) l19 c19 k19
  have b19 := F19.binds (ps := ["text", "most"]) fun _ _ _ _ _ _ us hl => match us, hl with | [_, _], _ => rfl
  have F20 := fun_mk (st := sValsOf) l20 c20 k20
  have b20 := F20.binds (ps := ["text"]) fun _ _ _ _ _ _ us hl => match us, hl with | [_], _ => rfl
  have F21 := fun_mk (st := sCell) l21 c21 k21
  have b21 := F21.binds (ps := ["script", "k"]) fun _ _ _ _ _ _ us hl => match us, hl with | [_, _], _ => rfl
  have F22 := fun_mk (st := sDigits) l22 c22 k22
  have b22 := F22.binds (ps := ["script", "first", "last"]) fun _ _ _ _ _ _ us hl => match us, hl with | [_, _, _], _ => rfl
  have F23 := fun_mk (st := sDraw) l23 c23 k23
  have b23 := F23.binds (ps := ["box", "many"]) fun _ _ _ _ _ _ us hl => match us, hl with | [_, _], _ => rfl
  have F24 := fun_mk (st := sAlike) l24 c24 k24
  have b24 := F24.binds (ps := ["one", "two"]) fun _ _ _ _ _ _ us hl => match us, hl with | [_, _], _ => rfl
  have F25 := fun_mk (st := sSomeV) l25 c25 k25
  have b25 := F25.binds (ps := ["box"]) fun _ _ _ _ _ _ us hl => match us, hl with | [_], _ => rfl
  have F26 := fun_mk (st := sEncR) l26 c26 k26
  have b26 := F26.binds (ps := ["number", "text"]) fun _ _ _ _ _ _ us hl => match us, hl with | [_, _], _ => rfl
  have F27 := fun_mk (st := sEncP) l27 c27 k27
  have b27 := F27.binds (ps := ["index", "many", "number", "piece"]) fun _ _ _ _ _ _ us hl => match us, hl with | [_, _, _, _], _ => rfl
  have F28 := fun_mk (st := sDec) l28 c28 k28
  have b28 := F28.binds (ps := ["block"]) fun _ _ _ _ _ _ us hl => match us, hl with | [_], _ => rfl
  have F29 := fun_mk (st := sChOf) l29 c29 k29
  have b29 := F29.binds (ps := ["codes"]) fun _ _ _ _ _ _ us hl => match us, hl with | [_], _ => rfl
  have F30 := fun_mk (st := sTornC) l30 c30 k30
  have b30 := F30.binds (ps := ["torn"]) fun _ _ _ _ _ _ us hl => match us, hl with | [_], _ => rfl
  have F31 := fun_mk (st := sChkE) l31 c31 k31
  have b31 := F31.binds (ps := ["names"]) fun _ _ _ _ _ _ us hl => match us, hl with | [_], _ => rfl
  have F32 := fun_mk (st := sBlk) l32 c32 k32
  have b32 := F32.binds (ps := ["rows", "first"]) fun _ _ _ _ _ _ us hl => match us, hl with | [_, _], _ => rfl
  have F33 := fun_mk (st := sFmt) l33 c33 k33
  have b33 := F33.binds (ps := ["disk", "entries"]) fun _ _ _ _ _ _ us hl => match us, hl with | [_, _], _ => rfl
  have F34 := fun_mk (st := sClear) l34 c34 k34
  have b34 := F34.binds (ps := ["disk", "first"]) fun _ _ _ _ _ _ us hl => match us, hl with | [_, _], _ => rfl
  have F35 := fun_mk (st := sOpen) l35 c35 k35
  have b35 := F35.binds (ps := ["disk"]) fun _ _ _ _ _ _ us hl => match us, hl with | [_], _ => rfl
  have F36 := fun_mk (st := sRdb) l36 c36 k36
  have b36 := F36.binds (ps := ["disk"]) fun _ _ _ _ _ _ us hl => match us, hl with | [_], _ => rfl
  have F37 := fun_mk (st := sRecA) l37 c37 k37
  have b37 := F37.binds (ps := ["disk", "at", "before"]) fun _ _ _ _ _ _ us hl => match us, hl with | [_, _, _], _ => rfl
  have F38 := fun_mk (st := sTxt) l38 c38 k38
  have b38 := F38.binds (ps := ["disk", "at", "number"]) fun _ _ _ _ _ _ us hl => match us, hl with | [_, _, _], _ => rfl
  have F39 := fun_mk (st := sFits) l39 c39 k39
  have b39 := F39.binds (ps := ["record", "before"]) fun _ _ _ _ _ _ us hl => match us, hl with | [_, _], _ => rfl
  have F40 := fun_mk (st := sCW) l40 c40 k40
  have b40 := F40.binds (ps := ["records"]) fun _ _ _ _ _ _ us hl => match us, hl with | [_], _ => rfl
  have F41 := fun_mk (st := sSmall) l41 c41 k41
  have b41 := F41.binds (ps := ["box"]) fun _ _ _ _ _ _ us hl => match us, hl with | [_], _ => rfl
  have F42 := fun_mk (st := sRows) l42 c42 k42
  have b42 := F42.binds (ps := ["box", "records"]) fun _ _ _ _ _ _ us hl => match us, hl with | [_, _], _ => rfl
  have F43 := fun_mk (st := sEnt) l43 c43 k43
  have b43 := F43.binds (ps := ["box"]) fun _ _ _ _ _ _ us hl => match us, hl with | [_], _ => rfl
  have F44 := fun_mk (st := sLTorn8) l44 c44 k44
  have b44 := F44.binds (ps := ["box", "many"]) fun _ _ _ _ _ _ us hl => match us, hl with | [_, _], _ => rfl
  have F45 := fun_mk (st := sAskR) l45 c45 k45
  have b45 := F45.binds (ps := ["log", "which", "rows"]) fun _ _ _ _ _ _ us hl => match us, hl with | [_, _, _], _ => rfl
  have F46 := fun_mk (st := sAsk) l46 c46 k46
  have b46 := F46.binds (ps := ["log", "which", "rows"]) fun _ _ _ _ _ _ us hl => match us, hl with | [_, _, _], _ => rfl
  have F47 := fun_mk (st := sTry) l47 c47 k47
  have b47 := F47.binds (ps := ["disk"]) fun _ _ _ _ _ _ us hl => match us, hl with | [_], _ => rfl
  have F48 := fun_mk (st := sReop) l48 c48 k48
  have b48 := F48.binds (ps := ["box", "disk"]) fun _ _ _ _ _ _ us hl => match us, hl with | [_, _], _ => rfl
  have F49 := fun_mk (st := sLaw48) l49 c49 k49
  have F50 := fun_mk (st := mDInit) l50 c50 k50
  have b50 := F50.binds (ps := ["self", "blocks"]) fun _ _ _ _ _ _ us hl => match us, hl with | [_, _], _ => rfl
  have F51 := fun_mk (st := mRead) l51 c51 k51
  have b51 := F51.binds (ps := ["self", "at"]) fun _ _ _ _ _ _ us hl => match us, hl with | [_, _], _ => rfl
  have F52 := fun_mk (st := mWrite) l52 c52 k52
  have b52 := F52.binds (ps := ["self", "at", "block"]) fun _ _ _ _ _ _ us hl => match us, hl with | [_, _, _], _ => rfl
  have F53 := fun_mk (st := mFlush) l53 c53 k53
  have b53 := F53.binds (ps := ["self"]) fun _ _ _ _ _ _ us hl => match us, hl with | [_], _ => rfl
  have F54 := fun_mk (st := mPend) l54 c54 k54
  have b54 := F54.binds (ps := ["self"]) fun _ _ _ _ _ _ us hl => match us, hl with | [_], _ => rfl
  have F55 := fun_mk (st := mCuts) l55 c55 k55
  have b55 := F55.binds (ps := ["self"]) fun _ _ _ _ _ _ us hl => match us, hl with | [_], _ => rfl
  have F56 := fun_mk (st := mCut) l56 c56 k56
  have b56 := F56.binds (ps := ["self", "torn"]) fun _ _ _ _ _ _ us hl => match us, hl with | [_, _], _ => rfl
  have F57 := fun_mk (st := mIndex) l57 c57 k57
  have b57 := F57.binds (ps := ["self", "at"]) fun _ _ _ _ _ _ us hl => match us, hl with | [_, _], _ => rfl
  have F58 := fun_mk (st := mCount) l58 c58 k58
  have b58 := F58.binds (ps := ["self"]) fun _ _ _ _ _ _ us hl => match us, hl with | [_], _ => rfl
  have F59 := fun_mk (st := mSize) l59 c59 k59
  have b59 := F59.binds (ps := ["self"]) fun _ _ _ _ _ _ us hl => match us, hl with | [_], _ => rfl
  have F60 := fun_mk (st := mSched) l60 c60 k60
  have b60 := F60.binds (ps := ["self", "many", "torn"]) fun _ _ _ _ _ _ us hl => match us, hl with | [_, _, _], _ => rfl
  have F61 := fun_mk (st := mLInit) l61 c61 k61
  have b61 := F61.binds (ps := ["self", "disk", "rows", "used"]) fun _ _ _ _ _ _ us hl => match us, hl with | [_, _, _, _], _ => rfl
  have F62 := fun_mk (st := mRecs) l62 c62 k62
  have b62 := F62.binds (ps := ["self"]) fun _ _ _ _ _ _ us hl => match us, hl with | [_], _ => rfl
  have F63 := fun_mk (st := mApp) l63 c63 k63
  have b63 := F63.binds (ps := ["self", "rows"]) fun _ _ _ _ _ _ us hl => match us, hl with | [_, _], _ => rfl
  have F64 := fun_mk (st := mSync) l64 c64 k64
  have b64 := F64.binds (ps := ["self"]) fun _ _ _ _ _ _ us hl => match us, hl with | [_], _ => rfl
  have F65 := fun_mk (st := mFree) l65 c65 k65
  have b65 := F65.binds (ps := ["self"]) fun _ _ _ _ _ _ us hl => match us, hl with | [_], _ => rfl
  have F66 := fun_mk (st := mIsOpen) l66 c66 k66
  have b66 := F66.binds (ps := ["self"]) fun _ _ _ _ _ _ us hl => match us, hl with | [_], _ => rfl
  have F67 := fun_mk (st := mChk) l67 c67 k67
  have b67 := F67.binds (ps := ["self"]) fun _ _ _ _ _ _ us hl => match us, hl with | [_], _ => rfl
  have hN := TB "is_name" f1 tcN tpN _ _ teN tdN tuN tsN tqN (g a1) l1 rfl rfl tlN tkN
  have hV := TB "is_value" f2 tcV tpV _ _ teV tdV tuV tsV tqV (g a2) l2 rfl rfl tlV tkV
  refine ⟨PySem.W.fnOf "law" "law" (defArgs sLaw) (defBody sLaw) (defScope sLaw) .none kV49 dc49 pm49 an49 cd49 ct49, [(tcN, tpN), (tcV, tpV)], spLaw K tpN tpV, fun p hp => ?_, fun p hp => ?_, fun p hp => ?_, fun s u => .of_eq rfl, fun H a ns hl _ hT hS => ?_, fun base _ _ hTB => ?_⟩
  · rcases List.mem_cons.mp hp with rfl | hp
    · exact hN.1
    rw [List.mem_singleton.mp hp]
    exact hV.1
  · rcases List.mem_cons.mp hp with rfl | hp
    · exact toN
    rw [List.mem_singleton.mp hp]
    exact toV
  · rcases List.mem_cons.mp hp with rfl | hp
    · exact hN.2
    rw [List.mem_singleton.mp hp]
    exact hV.2
  · refine ⟨a, ns, rfl, hS, ⟨⟨#[], hT (tcN, tpN) List.mem_cons_self, trivial⟩, ⟨#[], hT (tcV, tpV) (List.mem_cons_of_mem _ List.mem_cons_self), trivial⟩⟩, fun _ => rfl⟩
  ·
    have tbN := hTB (tcN, tpN) List.mem_cons_self
    have tbV := hTB (tcV, tpV) (List.mem_cons_of_mem _ List.mem_cons_self)
    have T : Txt K mg := ⟨gz z_len, gz z_range, gz z_bint, gz z_bstr, gz z_bbool, gz z_blist, gz z_repr, gz z_isinstance, gz z_ord, gz z_all, ⟨_, g y_NAME_MOST⟩, ⟨_, g y_NUMBER_MOST⟩, ⟨_, g y_STRING_MOST⟩, ⟨_, g y_CHARACTERS⟩, ⟨_, g y_LETTERS⟩, ⟨_, g y_DIGITS⟩, ⟨_, g y_SIGNS⟩, ⟨ra, g uRA, fun H => .inr ⟨_, iR, nR, uRL, rfl, rfl, uRZ, vals_strs _ _ uRV⟩⟩⟩
    have TT : K6.TB mg := ⟨gz z_btuple, gz z_bset⟩
    have oCell := ok_cell (P := l.prog) (w := w) (base := base) F21 T
    have oDraw := ok_draw (P := l.prog) (w := w) (base := base) F23 T
    have oDig := ok_digits F22 T oCell (g a21) k21 b21
    have oVal := ok_value (P := l.prog) (w := w) (base := base) l2 c2 rfl tbV T
    have oNam := ok_name (P := l.prog) (w := w) (base := base) l1 c1 rfl tbN T
    have oEnd := ok_end (P := l.prog) (w := w) (base := base) F8 T
    have oStr := ok_str F7 T oVal (g a2) k2 b2
    have oWord := ok_word (PT := tpV) F5 T oEnd (g a8) k8 b8
    have oNum := ok_num (PT := tpV) F6 T oEnd (g a8) k8 b8
    have oTok := ok_tokat F4 T (oWord.mono (by decide)) (g a5) k5 b5 (oNum.mono (by decide)) (g a6) k6 b6 oStr (g a7) k7 b7
    have oSpl := ok_split F3 T oTok (g a4) k4 b4
    have oTwice := K6.ok_twice (P := l.prog) (w := w) (base := base) F9 T (gz z_bset)
    have oAreN := ok_areN F10 T T ⟨g a9, k9, b9, oTwice⟩ ⟨g a1, k1, b1, oNam⟩
    have oAreE := ok_areE F11 T T ⟨_, g y_ENTRIES_MOST⟩ ⟨g a10, k10, b10, oAreN⟩
    have oAreA := ok_areAL F12 T T ⟨_, g y_ARGUMENTS_MOST⟩ nNV ⟨g a2, k2, b2, oVal⟩
    have oWV := ok_wval (P := l.prog) (w := w) (base := base) F14 T
    have oWR := ok_wRec F13 T ⟨g a14, k14, b14, oWV⟩
    have oNO := ok_numOf (P := l.prog) (w := w) (base := base) F19 T
    have oVO := ok_valsOf F20 T TT nNV ⟨g a3, k3, b3, oSpl⟩ ⟨g a12, k12, b12, oAreA⟩
    have oTO := ok_textOf F17 T T ⟨_, g y_TEXT_MOST⟩ ⟨g a1, k1, b1, oNam⟩
    have oCO := ok_callOf F18 T nNV ⟨_, g y_HOLDERS_MOST⟩ ⟨_, g y_COUNT_MOST⟩ ⟨g a1, k1, b1, oNam⟩ ⟨g a19, k19, b19, oNO⟩ ⟨g a20, k20, b20, oVO⟩
    have oRO := ok_recOf F16 T TT nNV ⟨_, g y_CHANGES_MOST⟩ ⟨g a11, k11, b11, oAreE⟩ ⟨g a17, k17, b17, oTO⟩ ⟨g a1, k1, b1, oNam⟩ ⟨g a19, k19, b19, oNO⟩ ⟨g a18, k18, b18, oCO⟩
    have oRead := K6.ok_read F15 T ⟨_, g y_CHARACTERS⟩ ⟨g a16, k16, b16, oRO⟩ ⟨g a13, k13, b13, oWR⟩
    have oSV := ok_someV F25 T ⟨g a23, k23, b23, oDraw⟩
    have oAl := ok_alike (P := l.prog) (w := w) (base := base) F24 T
    
    have T3 : K5.Txt3 mg := ⟨gz z_all, gz z_enumerate⟩
    have T4 : K4.Txt3 mg := ⟨gz z_btuple, gz z_isinstance, gz z_enumerate, gz z_any, gz z_all, gz z_ord, ⟨_, g y_BLOCK⟩, ⟨_, g y_MARK⟩, ⟨_, g y_HEAD⟩, ⟨_, g y_PIECE⟩, ⟨_, g y_CHARACTERS⟩⟩
    have TD : TxD K mg CD := ⟨⟨pgD, hdD, poD, saD⟩, naD0, naD1, naD2, naD3, g gD, ⟨_, g y_BLOCK⟩, ⟨_, g y_BLOCKS_LEAST⟩, ⟨_, g y_BLOCKS_MOST⟩, ⟨_, g y_BYTE_MOST⟩⟩
    have oc : OexC K EO := ⟨⟨nmO, qO, NO, bsO, bmO, snO, subO, abO, colO, ddO, k0O, k1O, k2O, k3O, k5O, xLO, rO⟩, saO, eCO, tCO, kCO⟩
    have TO : TxO K mg EO fI := ⟨g gO, oc, iO, tyI, nnO, ⟨gaO, ggO, eCO, hdO⟩, exmSame eCO icO tCO sCO⟩
    have SK : SupK l.prog K mg "__init__" "OutOfRange.__init__" mOInit fI ccI cdaI EO := ⟨⟨_, _, _, _, _, _, _, _, lI⟩, cI, ⟨_, _, _, _, _, _, liI, fvI, ffI⟩, ⟨_, _, _, ceI⟩, mrO, gz z_super, opq, inS, isVE, topN, oc⟩
    obtain ⟨fdI, bI, FI⟩ := K5.ok_oinit (w := w) (base := base) SK nnO
    have TP : TxP K mg "PowerCut" EP := ⟨g xP, exP, ekP, ebP, etP⟩
    have TL : TxL K mg CL := ⟨⟨pgL, hdL, poL, saL⟩, naL0, naL1, naL2, naL3, g gL⟩
    have TN : TxP K mg "NotOpen" EN := ⟨g xN, exN, ekN, ebN, etN⟩
    have TF : TxP K mg "LogFull" EF := ⟨g xF, exF, ekF, ebF, etF⟩
    have TK : TxP K mg "NotKept" EK := ⟨g xK, exK, ekK, ebK, etK⟩
    have oTC := K5.ok_tornC F30 T TD T3 TO bI FI
    have oDI := K5.ok_dinit F50 T TD TO bI FI
    have oIX := K5.ok_index F57 T TD TO bI FI
    have oSz := K5.ok_size (P := l.prog) (w := w) (base := base) F59 T TD
    have oPe := K5.ok_pend (P := l.prog) (w := w) (base := base) F54 T TD
    have oCu := K5.ok_cuts (P := l.prog) (w := w) (base := base) F55 T TD
    have oRd := K5.ok_read F51 T TD ⟨⟨a57, i57, k57⟩, b57, oIX⟩
    have oCt := K5.ok_cut F56 T T3 TD ⟨g a30, k30, b30, oTC⟩
    have oCo := K5.ok_count F58 T TD TP ⟨⟨a56, i56, k56⟩, b56, oCt⟩
    have oWr := K5.ok_write F52 T T3 TD TO bI FI ⟨⟨a57, i57, k57⟩, b57, oIX⟩ ⟨⟨a58, i58, k58⟩, b58, oCo⟩
    have oFl := K5.ok_flush F53 TD ⟨⟨a58, i58, k58⟩, b58, oCo⟩
    have oEP := K4.ok_encP (P := l.prog) (w := w) (base := base) F27 T T4
    have oER := K4.ok_encR F26 T T4 ⟨g a27, k27, b27, oEP⟩
    have oCh := K4.ok_chOf (P := l.prog) (w := w) (base := base) F29 T T4
    have oDe := K4.ok_dec F28 T T4 ⟨g a29, k29, b29, oCh⟩
    have oTwL := ok_twiceL (P := l.prog) (w := w) (base := base) F9 T (gz z_bset)
    have oBk := ok_blk F32 T3 ⟨g a26, k26, b26, oER⟩ ⟨g a13, k13, b13, oWR⟩
    have oLI := ok_linit F61 T TD TL ⟨⟨a55, i55, k55⟩, b55, oCu⟩
    have oRs := ok_recs (P := l.prog) (w := w) (base := base) F62 T TL
    have oFr := ok_free F65 TD TL ⟨⟨a59, i59, k59⟩, b59, oSz⟩
    have oIO := ok_isOpen F66 TD TL ⟨⟨a55, i55, k55⟩, b55, oCu⟩
    have oCk := ok_chkO F67 TD TL TN ⟨⟨a66, i66, k66⟩, b66, oIO⟩
    have oSy := ok_sync (PN := tpN) (PV := tpV) F64 TD TL ⟨⟨a67, i67, k67⟩, b67, oCk⟩ ⟨⟨a53, i53, k53⟩, b53, oFl⟩
    have oAp := ok_app (PN := tpN) (PV := tpV) F63 T T3 TD TL TF ⟨g a32, k32, b32, oBk⟩ ⟨⟨a67, i67, k67⟩, b67, oCk⟩ ⟨⟨a65, i65, k65⟩, b65, oFr⟩ ⟨⟨a52, i52, k52⟩, b52, oWr⟩
    have oCl := ok_clear (PN := tpN) (PV := tpV) F34 T TD ⟨⟨a59, i59, k59⟩, b59, oSz⟩ ⟨⟨a52, i52, k52⟩, b52, oWr⟩ ⟨⟨a53, i53, k53⟩, b53, oFl⟩
    have oCE := ok_chkE F31 TO bI FI nNV ⟨g a11, k11, b11, oAreE⟩
    have oFm := ok_fmt F33 T ⟨gz z_btuple⟩ T3 TD ⟨g a31, k31, b31, oCE⟩ ⟨g a32, k32, b32, oBk⟩ ⟨g a34, k34, b34, oCl⟩ ⟨⟨a52, i52, k52⟩, b52, oWr⟩
    have oTx := ok_txt F38 T ⟨gz z_min⟩ TD ⟨_, g y_PIECES_MOST⟩ ⟨g a28, k28, b28, oDe⟩ ⟨g a26, k26, b26, oER⟩ ⟨⟨a59, i59, k59⟩, b59, oSz⟩ ⟨⟨a51, i51, k51⟩, b51, oRd⟩
    have oFi := ok_fits (P := l.prog) (w := w) (base := base) F39 T
    have oCW := ok_cw F40 T T3 ⟨g a9, k9, b9, oTwL⟩
    have oRA := ok_recA F37 T ⟨g a38, k38, b38, oTx⟩ ⟨g a15, k15, b15, oRead⟩ ⟨g a39, k39, b39, oFi⟩
    have oRb := ok_rdb F36 T ⟨g a37, k37, b37, oRA⟩ ⟨g a32, k32, b32, oBk⟩
    have oOp := ok_open F35 T TL TK ⟨g a36, k36, b36, oRb⟩ ⟨g a40, k40, b40, oCW⟩ ⟨g a34, k34, b34, oCl⟩ ⟨mkL, a61, i61, kcL⟩ b61 oLI
    have oSm := ok_small F41 ⟨g a23, k23, b23, oDraw⟩
    have oEn := ok_ent F43 ⟨g a23, k23, b23, oDraw⟩
    have oRw := ok_rows F42 T ⟨gz z_btuple⟩ ⟨g a23, k23, b23, oDraw⟩ ⟨g a25, k25, b25, oSV⟩ ⟨g a41, k41, b41, oSm⟩
    have oSch := K5.ok_sched F60 T TD ⟨_, g y_SCHEDULE_MOST⟩ TO bI FI ⟨g a30, k30, b30, oTC⟩
    have oLT := K5.ok_ltorn F44 T ⟨g a23, k23, b23, oDraw⟩
    have TQ : TxQ K EF EN EP := ⟨exmSame ebF eiF etF esF, exm_no ebF eiF etF sNF, exmSame ebN eiN etN esN, exm_no ebF eiF etF sPF, exm_no ebN eiN etN sPN, exmSame ebP eiP etP esP⟩
    have oAR := ok_askR F45 TL ⟨⟨a63, i63, k63⟩, b63, oAp⟩ ⟨⟨a64, i64, k64⟩, b64, oSy⟩
    have oAk := ok_ask F46 TF TN TP TQ ⟨g a45, k45, b45, oAR⟩
    have oTy := ok_try F47 TP TQ.pp ⟨g a35, k35, b35, oOp⟩
    have oRe := ok_reop F48 T TD ⟨g a23, k23, b23, oDraw⟩ ⟨g a44, k44, b44, oLT⟩ ⟨g a47, k47, b47, oTy⟩ ⟨g a35, k35, b35, oOp⟩ ⟨⟨a60, i60, k60⟩, b60, oSch⟩
    exact ok_law48 F49 T ⟨gz z_min, gz z_max⟩ TD TL ⟨mkD, a50, i50, kcD⟩ b50 oDI ⟨g a22, k22, b22, oDig⟩ ⟨g a23, k23, b23, oDraw⟩ ⟨g a43, k43, b43, oEn⟩ ⟨g a33, k33, b33, oFm⟩ ⟨g a35, k35, b35, oOp⟩ ⟨g a42, k42, b42, oRw⟩ ⟨g a46, k46, b46, oAk⟩ ⟨g a44, k44, b44, oLT⟩ ⟨g a48, k48, b48, oRe⟩ ⟨⟨a56, i56, k56⟩, b56, oCt⟩ ⟨⟨a54, i54, k54⟩, b54, oPe⟩ ⟨⟨a62, i62, k62⟩, b62, oRs⟩ ⟨⟨a60, i60, k60⟩, b60, oSch⟩ oAl (g a24) k24 b24
end K7

open PySem PySem.W PyProof.Rows
set_option maxRecDepth 100000 in
set_option maxHeartbeats 0 in
theorem PySem.Challenge.cw_sameasnew_k48_log_under_cuts_holds : PySem.Challenge.rw_sameasnew_k48_log_under_cuts.Holds := by
  w_on; o_law; k_head; (case hw => w_witness2)
  k_fill
  refine GD.walk_ofG (l := PySem.Challenge.rw_sameasnew_k48_log_under_cuts) (n := 63) (k := 15) (x := "script") (CX := fun _ => L2.CX0) rfl (by decide) rfl ⟨rfl, by decide, by decide⟩ (fun w h Y => PySem.W.kIn_of Y) ?F (fun _ _ _ _ _ h => h)
  case F =>
    intro w mg fa h Y KX G hmg TB
    refine' K7.end_at KX G hmg TB ?gD ?gL ?xP ?xN ?xF ?xK ?a1 ?l1 ?c1 ?k1 ?a2 ?l2 ?c2 ?k2 ?a3 ?l3 ?c3 ?k3 ?a4 ?l4 ?c4 ?k4 ?a5 ?l5 ?c5 ?k5 ?a6 ?l6 ?c6 ?k6 ?a7 ?l7 ?c7 ?k7 ?a8 ?l8 ?c8 ?k8 ?a9 ?l9 ?c9 ?k9 ?a10 ?l10 ?c10 ?k10 ?a11 ?l11 ?c11 ?k11 ?a12 ?l12 ?c12 ?k12 ?a13 ?l13 ?c13 ?k13 ?a14 ?l14 ?c14 ?k14 ?a15 ?l15 ?c15 ?k15 ?a16 ?l16 ?c16 ?k16 ?a17 ?l17 ?c17 ?k17 ?a18 ?l18 ?c18 ?k18 ?a19 ?l19 ?c19 ?k19 ?a20 ?l20 ?c20 ?k20 ?a21 ?l21 ?c21 ?k21 ?a22 ?l22 ?c22 ?k22 ?a23 ?l23 ?c23 ?k23 ?a24 ?l24 ?c24 ?k24 ?a25 ?l25 ?c25 ?k25 ?a26 ?l26 ?c26 ?k26 ?a27 ?l27 ?c27 ?k27 ?a28 ?l28 ?c28 ?k28 ?a29 ?l29 ?c29 ?k29 ?a30 ?l30 ?c30 ?k30 ?a31 ?l31 ?c31 ?k31 ?a32 ?l32 ?c32 ?k32 ?a33 ?l33 ?c33 ?k33 ?a34 ?l34 ?c34 ?k34 ?a35 ?l35 ?c35 ?k35 ?a36 ?l36 ?c36 ?k36 ?a37 ?l37 ?c37 ?k37 ?a38 ?l38 ?c38 ?k38 ?a39 ?l39 ?c39 ?k39 ?a40 ?l40 ?c40 ?k40 ?a41 ?l41 ?c41 ?k41 ?a42 ?l42 ?c42 ?k42 ?a43 ?l43 ?c43 ?k43 ?a44 ?l44 ?c44 ?k44 ?a45 ?l45 ?c45 ?k45 ?a46 ?l46 ?c46 ?k46 ?a47 ?l47 ?c47 ?k47 ?a48 ?l48 ?c48 ?k48 ?a49 ?l49 ?c49 ?k49 ?a50 ?i50 ?l50 ?c50 ?k50 ?a51 ?i51 ?l51 ?c51 ?k51 ?a52 ?i52 ?l52 ?c52 ?k52 ?a53 ?i53 ?l53 ?c53 ?k53 ?a54 ?i54 ?l54 ?c54 ?k54 ?a55 ?i55 ?l55 ?c55 ?k55 ?a56 ?i56 ?l56 ?c56 ?k56 ?a57 ?i57 ?l57 ?c57 ?k57 ?a58 ?i58 ?l58 ?c58 ?k58 ?a59 ?i59 ?l59 ?c59 ?k59 ?a60 ?i60 ?l60 ?c60 ?k60 ?a61 ?i61 ?l61 ?c61 ?k61 ?a62 ?i62 ?l62 ?c62 ?k62 ?a63 ?i63 ?l63 ?c63 ?k63 ?a64 ?i64 ?l64 ?c64 ?k64 ?a65 ?i65 ?l65 ?c65 ?k65 ?a66 ?i66 ?l66 ?c66 ?k66 ?a67 ?i67 ?l67 ?c67 ?k67 ?pgD ?hdD ?poD ?saD ?mkD ?kcD ?naD0 ?naD1 ?naD2 ?naD3 ?pgL ?hdL ?poL ?saL ?mkL ?kcL ?naL0 ?naL1 ?naL2 ?naL3 ?exP ?ekP ?ebP ?etP ?eiP ?esP ?exN ?ekN ?ebN ?etN ?eiN ?esN ?exF ?ekF ?ebF ?etF ?eiF ?esF ?exK ?ekK ?ebK ?etK ?eiK ?esK ?z_len ?z_range ?z_bint ?z_bstr ?z_bbool ?z_blist ?z_repr ?z_isinstance ?z_ord ?z_all ?z_btuple ?z_bset ?z_enumerate ?z_max ?z_min ?z_super ?z_any ?y_BLOCK ?y_BLOCKS_LEAST ?y_BLOCKS_MOST ?y_BYTE_MOST ?y_NAME_MOST ?y_NUMBER_MOST ?y_STRING_MOST ?y_PIECE ?y_PIECES_MOST ?y_MARK ?y_HEAD ?y_TEXT_MOST ?y_ENTRIES_MOST ?y_CHANGES_MOST ?y_ARGUMENTS_MOST ?y_HOLDERS_MOST ?y_COUNT_MOST ?y_SCHEDULE_MOST ?y_CHARACTERS ?y_LETTERS ?y_DIGITS ?y_SIGNS ?uRA ?uRL ?uRZ ?uRV ?hdP ?hgP ?hkP ?haP ?hnP ?htP ?hmP ?gO ?gM ?xLO ?rO ?saO ?gaO ?ggO ?nnO ?iO ?tyI ?kCO ?eCO ?tCO ?hdO ?icO ?sCO ?lI ?cI ?liI ?fvI ?ffI ?ceI ?mrO ?opq ?inS ?sOP ?sPM ?sPO ?tyM ?icM ?nPM ?nPO ?isVE ?topN ?sNF ?sPF ?sPN ?tlN ?tkN ?toN ?tqN ?tlV ?tkV ?toV ?tqV ?nNV
    (case gD => k_is)
    (case gL => k_is)
    (case xP => k_is)
    (case xN => k_is)
    (case xF => k_is)
    (case xK => k_is)
    (case a1 => k_is)
    (case l1 => k_is)
    (case c1 => k_is)
    (case k1 => k_is)
    (case a2 => k_is)
    (case l2 => k_is)
    (case c2 => k_is)
    (case k2 => k_is)
    (case a3 => k_is)
    (case l3 => k_is)
    (case c3 => k_is)
    (case k3 => k_is)
    (case a4 => k_is)
    (case l4 => k_is)
    (case c4 => k_is)
    (case k4 => k_is)
    (case a5 => k_is)
    (case l5 => k_is)
    (case c5 => k_is)
    (case k5 => k_is)
    (case a6 => k_is)
    (case l6 => k_is)
    (case c6 => k_is)
    (case k6 => k_is)
    (case a7 => k_is)
    (case l7 => k_is)
    (case c7 => k_is)
    (case k7 => k_is)
    (case a8 => k_is)
    (case l8 => k_is)
    (case c8 => k_is)
    (case k8 => k_is)
    (case a9 => k_is)
    (case l9 => k_is)
    (case c9 => k_is)
    (case k9 => k_is)
    (case a10 => k_is)
    (case l10 => k_is)
    (case c10 => k_is)
    (case k10 => k_is)
    (case a11 => k_is)
    (case l11 => k_is)
    (case c11 => k_is)
    (case k11 => k_is)
    (case a12 => k_is)
    (case l12 => k_is)
    (case c12 => k_is)
    (case k12 => k_is)
    (case a13 => k_is)
    (case l13 => k_is)
    (case c13 => k_is)
    (case k13 => k_is)
    (case a14 => k_is)
    (case l14 => k_is)
    (case c14 => k_is)
    (case k14 => k_is)
    (case a15 => k_is)
    (case l15 => k_is)
    (case c15 => k_is)
    (case k15 => k_is)
    (case a16 => k_is)
    (case l16 => k_is)
    (case c16 => k_is)
    (case k16 => k_is)
    (case a17 => k_is)
    (case l17 => k_is)
    (case c17 => k_is)
    (case k17 => k_is)
    (case a18 => k_is)
    (case l18 => k_is)
    (case c18 => k_is)
    (case k18 => k_is)
    (case a19 => k_is)
    (case l19 => k_is)
    (case c19 => k_is)
    (case k19 => k_is)
    (case a20 => k_is)
    (case l20 => k_is)
    (case c20 => k_is)
    (case k20 => k_is)
    (case a21 => k_is)
    (case l21 => k_is)
    (case c21 => k_is)
    (case k21 => k_is)
    (case a22 => k_is)
    (case l22 => k_is)
    (case c22 => k_is)
    (case k22 => k_is)
    (case a23 => k_is)
    (case l23 => k_is)
    (case c23 => k_is)
    (case k23 => k_is)
    (case a24 => k_is)
    (case l24 => k_is)
    (case c24 => k_is)
    (case k24 => k_is)
    (case a25 => k_is)
    (case l25 => k_is)
    (case c25 => k_is)
    (case k25 => k_is)
    (case a26 => k_is)
    (case l26 => k_is)
    (case c26 => k_is)
    (case k26 => k_is)
    (case a27 => k_is)
    (case l27 => k_is)
    (case c27 => k_is)
    (case k27 => k_is)
    (case a28 => k_is)
    (case l28 => k_is)
    (case c28 => k_is)
    (case k28 => k_is)
    (case a29 => k_is)
    (case l29 => k_is)
    (case c29 => k_is)
    (case k29 => k_is)
    (case a30 => k_is)
    (case l30 => k_is)
    (case c30 => k_is)
    (case k30 => k_is)
    (case a31 => k_is)
    (case l31 => k_is)
    (case c31 => k_is)
    (case k31 => k_is)
    (case a32 => k_is)
    (case l32 => k_is)
    (case c32 => k_is)
    (case k32 => k_is)
    (case a33 => k_is)
    (case l33 => k_is)
    (case c33 => k_is)
    (case k33 => k_is)
    (case a34 => k_is)
    (case l34 => k_is)
    (case c34 => k_is)
    (case k34 => k_is)
    (case a35 => k_is)
    (case l35 => k_is)
    (case c35 => k_is)
    (case k35 => k_is)
    (case a36 => k_is)
    (case l36 => k_is)
    (case c36 => k_is)
    (case k36 => k_is)
    (case a37 => k_is)
    (case l37 => k_is)
    (case c37 => k_is)
    (case k37 => k_is)
    (case a38 => k_is)
    (case l38 => k_is)
    (case c38 => k_is)
    (case k38 => k_is)
    (case a39 => k_is)
    (case l39 => k_is)
    (case c39 => k_is)
    (case k39 => k_is)
    (case a40 => k_is)
    (case l40 => k_is)
    (case c40 => k_is)
    (case k40 => k_is)
    (case a41 => k_is)
    (case l41 => k_is)
    (case c41 => k_is)
    (case k41 => k_is)
    (case a42 => k_is)
    (case l42 => k_is)
    (case c42 => k_is)
    (case k42 => k_is)
    (case a43 => k_is)
    (case l43 => k_is)
    (case c43 => k_is)
    (case k43 => k_is)
    (case a44 => k_is)
    (case l44 => k_is)
    (case c44 => k_is)
    (case k44 => k_is)
    (case a45 => k_is)
    (case l45 => k_is)
    (case c45 => k_is)
    (case k45 => k_is)
    (case a46 => k_is)
    (case l46 => k_is)
    (case c46 => k_is)
    (case k46 => k_is)
    (case a47 => k_is)
    (case l47 => k_is)
    (case c47 => k_is)
    (case k47 => k_is)
    (case a48 => k_is)
    (case l48 => k_is)
    (case c48 => k_is)
    (case k48 => k_is)
    (case a49 => k_is)
    (case l49 => k_is)
    (case c49 => k_is)
    (case k49 => k_is)
    (case a50 => k_is)
    (case i50 => k_is)
    (case l50 => k_is)
    (case c50 => k_is)
    (case k50 => k_is)
    (case a51 => k_is)
    (case i51 => k_is)
    (case l51 => k_is)
    (case c51 => k_is)
    (case k51 => k_is)
    (case a52 => k_is)
    (case i52 => k_is)
    (case l52 => k_is)
    (case c52 => k_is)
    (case k52 => k_is)
    (case a53 => k_is)
    (case i53 => k_is)
    (case l53 => k_is)
    (case c53 => k_is)
    (case k53 => k_is)
    (case a54 => k_is)
    (case i54 => k_is)
    (case l54 => k_is)
    (case c54 => k_is)
    (case k54 => k_is)
    (case a55 => k_is)
    (case i55 => k_is)
    (case l55 => k_is)
    (case c55 => k_is)
    (case k55 => k_is)
    (case a56 => k_is)
    (case i56 => k_is)
    (case l56 => k_is)
    (case c56 => k_is)
    (case k56 => k_is)
    (case a57 => k_is)
    (case i57 => k_is)
    (case l57 => k_is)
    (case c57 => k_is)
    (case k57 => k_is)
    (case a58 => k_is)
    (case i58 => k_is)
    (case l58 => k_is)
    (case c58 => k_is)
    (case k58 => k_is)
    (case a59 => k_is)
    (case i59 => k_is)
    (case l59 => k_is)
    (case c59 => k_is)
    (case k59 => k_is)
    (case a60 => k_is)
    (case i60 => k_is)
    (case l60 => k_is)
    (case c60 => k_is)
    (case k60 => k_is)
    (case a61 => k_is)
    (case i61 => k_is)
    (case l61 => k_is)
    (case c61 => k_is)
    (case k61 => k_is)
    (case a62 => k_is)
    (case i62 => k_is)
    (case l62 => k_is)
    (case c62 => k_is)
    (case k62 => k_is)
    (case a63 => k_is)
    (case i63 => k_is)
    (case l63 => k_is)
    (case c63 => k_is)
    (case k63 => k_is)
    (case a64 => k_is)
    (case i64 => k_is)
    (case l64 => k_is)
    (case c64 => k_is)
    (case k64 => k_is)
    (case a65 => k_is)
    (case i65 => k_is)
    (case l65 => k_is)
    (case c65 => k_is)
    (case k65 => k_is)
    (case a66 => k_is)
    (case i66 => k_is)
    (case l66 => k_is)
    (case c66 => k_is)
    (case k66 => k_is)
    (case a67 => k_is)
    (case i67 => k_is)
    (case l67 => k_is)
    (case c67 => k_is)
    (case k67 => k_is)
    (case pgD => k_is)
    (case hdD => k_is)
    (case poD => k_is)
    (case saD => k_is)
    (case mkD => k_is)
    (case kcD => k_is)
    (case naD0 => k_is)
    (case naD1 => k_is)
    (case naD2 => k_is)
    (case naD3 => k_is)
    (case pgL => k_is)
    (case hdL => k_is)
    (case poL => k_is)
    (case saL => k_is)
    (case mkL => k_is)
    (case kcL => k_is)
    (case naL0 => k_is)
    (case naL1 => k_is)
    (case naL2 => k_is)
    (case naL3 => k_is)
    (case exP => k_exc)
    (case ekP => k_is)
    (case ebP => k_is)
    (case etP => k_is)
    (case eiP => k_is)
    (case esP => first | rfl | k_is)
    (case exN => k_exc)
    (case ekN => k_is)
    (case ebN => k_is)
    (case etN => k_is)
    (case eiN => k_is)
    (case esN => first | rfl | k_is)
    (case exF => k_exc)
    (case ekF => k_is)
    (case ebF => k_is)
    (case etF => k_is)
    (case eiF => k_is)
    (case esF => first | rfl | k_is)
    (case exK => k_exc)
    (case ekK => k_is)
    (case ebK => k_is)
    (case etK => k_is)
    (case eiK => k_is)
    (case esK => first | rfl | k_is)
    (case z_len => k_is)
    (case z_range => k_is)
    (case z_bint => k_is)
    (case z_bstr => k_is)
    (case z_bbool => k_is)
    (case z_blist => k_is)
    (case z_repr => k_is)
    (case z_isinstance => k_is)
    (case z_ord => k_is)
    (case z_all => k_is)
    (case z_btuple => k_is)
    (case z_bset => k_is)
    (case z_enumerate => k_is)
    (case z_max => k_is)
    (case z_min => k_is)
    (case z_super => k_is)
    (case z_any => k_is)
    (case y_BLOCK => k_is)
    (case y_BLOCKS_LEAST => k_is)
    (case y_BLOCKS_MOST => k_is)
    (case y_BYTE_MOST => k_is)
    (case y_NAME_MOST => k_is)
    (case y_NUMBER_MOST => k_is)
    (case y_STRING_MOST => k_is)
    (case y_PIECE => k_is)
    (case y_PIECES_MOST => k_is)
    (case y_MARK => k_is)
    (case y_HEAD => k_is)
    (case y_TEXT_MOST => k_is)
    (case y_ENTRIES_MOST => k_is)
    (case y_CHANGES_MOST => k_is)
    (case y_ARGUMENTS_MOST => k_is)
    (case y_HOLDERS_MOST => k_is)
    (case y_COUNT_MOST => k_is)
    (case y_SCHEDULE_MOST => k_is)
    (case y_CHARACTERS => k_is)
    (case y_LETTERS => k_is)
    (case y_DIGITS => k_is)
    (case y_SIGNS => k_is)
    (case uRA => k_is)
    (case uRL => k_is)
    (case uRZ => decide)
    (case uRV => rfl)
    (case hdP => k_is)
    (case hgP => k_is)
    (case hkP => k_is)
    (case haP => k_is)
    (case hnP => k_is)
    (case htP => k_is)
    (case hmP => k_is)
    (case gO => k_is)
    (case gM => k_is)
    (case xLO => k_is)
    (case rO => decide +kernel)
    (case saO => k_is)
    (case gaO => k_is)
    (case ggO => k_is)
    (case nnO => k_is)
    (case iO => k_is)
    (case tyI => k_is)
    (case kCO => k_is)
    (case eCO => k_is)
    (case tCO => k_is)
    (case hdO => k_is)
    (case icO => k_is)
    (case sCO => first | rfl | k_is)
    (case lI => k_is)
    (case cI => k_is)
    (case liI => k_is)
    (case fvI => rfl)
    (case ffI => first | rfl | decide +kernel)
    (case ceI => k_is)
    (case mrO => first | k_is | rfl)
    (case opq => k_is)
    (case inS => first | rfl | kernel_rfl | decide +kernel)
    (case sOP => first | k_is | rfl)
    (case sPM => first | k_is | rfl)
    (case sPO => first | k_is | rfl)
    (case tyM => k_is)
    (case icM => k_is)
    (case nPM => first | rfl | decide)
    (case nPO => first | rfl | decide)
    (case isVE => k_is)
    (case topN => first | rfl | decide +kernel)
    (case sNF => first | k_is | rfl)
    (case sPF => first | k_is | rfl)
    (case sPN => first | k_is | rfl)
    (case tlN => k_is)
    (case tkN => rfl)
    (case toN => first | rfl | kernel_rfl | decide +kernel)
    (case tqN => decide +kernel)
    (case tlV => k_is)
    (case tkV => rfl)
    (case toV => first | rfl | kernel_rfl | decide +kernel)
    (case tqV => decide +kernel)
    (case nNV => decide)
