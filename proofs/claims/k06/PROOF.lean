import PyProof.Rows.All
import Wide.All
import OpenK.AllK
import Wide.FinOn
import HandS.ForMost
import HandS.AnyAll
import HandS.EndTab
import PyProof.GenCompD
import KE.KIntText
import HandS.StrMore
import HandS.Codes
import PyProof.StrLawsRepr
import HandS.Deep
import HandS.Strs
import HandS.More
import HandS.TupAny
import PySem.Challenge.RW_sameasnew_k06_first_fault_of_names
set_option Elab.async false
set_option linter.all false
set_option maxRecDepth 100000
set_option maxHeartbeats 4000000
/-! My own small layer over HandS: promises of defs that hold where no repr is under way (guards = []), the repr of data, the end with tables. -/
namespace GD
open PySem PySem.Spec PyProof.Rows L2

/-- a promise that is kept where nothing is being shown -/
structure FnG (P : Program) (w : World) (K : PySem.W.Frag) (mg : Str → Option Value) (base : Heap)
    (CX : CXT) (k : Nat) (f : Addr) (fd : FuncData) (ps : List Str) (sp : Sp) : Prop where
  size : ∀ vs H Q E, sp vs H Q E → vs.length = ps.length
  go : ∀ (A : Around) (outer : List Env) (s : Shared) (H : Hp) (args : Args) (us : List Value)
    (vs : List V) (Q : VK) (E : XK), A.guards = some [] → Room k A →
    Env0 P w K mg base A outer s H → BindsTo s fd args (ps.zip us) → Vals vs us → sp vs H Q E →
    codeAny (model P w) A (.call (.ref f) args) (CR CX outer P w H s Q E) s

section
variable {P : Program} {w : World} {K : PySem.W.Frag} {mg : Str → Option Value} {base : Heap}
variable {CX : CXT} {k : Nat} {f : Addr} {fd : FuncData} {ps : List Str} {sp : Sp}
theorem FnG.of (F : FnOk P w K mg base CX k f fd ps sp) : FnG P w K mg base CX k f fd ps sp :=
  ⟨F.len, fun A outer s H args us vs Q E _ => F.run A outer s H args us vs Q E⟩

/-- a def of the text by its body, with what is known of the guards -/
theorem fnG_of {name qual : Str} {params : Arguments} {body : List Stmt} {scope : Scope}
    {dV kV doc pm cdv ct oc : Value} {an od : Option Addr} {osl : Array (Option Value)} {N : List Str}
    (lk : K.lookup f = some ⟨oc, od, .func (PySem.W.fnOf name qual params body scope dV kV doc pm an cdv ct), osl⟩)
    (hcd : PySem.W.codeIn K cdv qual = true) (S : FnScope N ps scope)
    (size : ∀ vs H Q E, sp vs H Q E → vs.length = ps.length)
    (hbody : ∀ (A : Around) (outer : List Env) (s : Shared) (H : Hp) (vs : List V) (Q : VK) (E : XK),
      (A.deeper (envOfC qual scope s.heap.objs.size f cdv)).guards = some [] →
      Room k (A.deeper (envOfC qual scope s.heap.objs.size f cdv)) → sp vs H Q E →
      ∃ t, PSs (cxOf CX P w K mg base N qual scope f cdv A outer s H E) body t ∧
        t { nx := fun _ H' => Q .non H', rt := Q } (start N vs) H) :
    FnG P w K mg base CX (k + 1) f (PySem.W.fnOf name qual params body scope dV kV doc pm an cdv ct) ps sp := by
  refine ⟨size, fun A outer s H args us vs Q E hgd hr z0 hb r hs => ?_⟩
  have hl := size _ _ _ _ hs
  have kx : K.In s.heap := z0.mod.kin.keeps fun b o e => (z0.bs b o e).1
  have nl : s.heap.NoLimit := z0.mod.nolimit.keeps fun b o e => (z0.bs b o e).1
  have kind : ∀ y ∈ ps.zip us, scope.names.lookup y.1 = some .local ∨
      (scope.names.lookup y.1 = some .cell ∧
        ((cellsFrom (s.heap.objs.size + 1) scope.names []).lookup y.1).isSome = true) := by
    rintro ⟨n, v⟩ hy
    rcases S.par n (List.of_mem_zip hy).1 with q | q
    · exact .inl q
    · exact .inr ⟨q, PySem.W.cellsFrom_some _ _ _ (.inl q)⟩
  refine codeAny_call_function hr.depth (kx _ _ lk) rfl S.co S.gen rfl (PySem.W.codeRec_of kx hcd) (hb _ _ _ _ ?_)
  refine wpAny_newFunctionEnv_cells S.kind kind fun env he s1 x => ?_
  subst he
  refine ⟨nl.keeps x.toInCall.keep, codeAny_func ?_⟩
  obtain ⟨t, ht, hq⟩ := hbody A outer s H vs Q E hgd (hr.deeper _) hs
  have J := inv_start (CX := CX) (E := E) (qual := qual) (f := f) (cd := cdv) S hr.hd z0 hl r x
  refine wpAny_mono (ht.run [] s1 (start N vs) H _ J hq) (fun fl s' hs' => ?_) fun e s' hs' => hs'
  cases fl with
  | ret u =>
    obtain ⟨v, σ2, H2, I2, rv, q⟩ := hs'
    exact ⟨v, H2, I2.os, I2.bare, I2.base, I2.hok, rv, q⟩
  | next =>
    obtain ⟨σ2, H2, I2, q⟩ := hs'
    exact ⟨V.non, H2, I2.os, I2.bare, I2.base, I2.hok, rfl, q⟩
  | brk =>
    obtain ⟨_, _, _, q⟩ := hs'
    exact q.elim
  | cont =>
    obtain ⟨_, _, _, q⟩ := hs'
    exact q.elim

theorem okG {x qual : Str} {st : Stmt} {N : List Str} (F : Fun K x qual st f fd) (S : FnScope N ps (defScope st))
    (size : ∀ vs H Q E, sp vs H Q E → vs.length = ps.length)
    (hbody : ∀ (cdv : Value) (A : Around) (outer : List Env) (s : Shared) (H : Hp) (vs : List V) (Q : VK) (E : XK),
      (A.deeper (envOfC qual (defScope st) s.heap.objs.size f cdv)).guards = some [] →
      Room k (A.deeper (envOfC qual (defScope st) s.heap.objs.size f cdv)) → sp vs H Q E →
      ∃ t, PSs (cxOf CX0 P w K mg base N qual (defScope st) f cdv A outer s H E).nox (defBody st) t ∧
        t { nx := fun _ H' => Q .non H', rt := Q } (start N vs) H) :
    FnG P w K mg base CX0 (k + 1) f fd ps sp := by
  obtain ⟨oc, od, kV, doc, pm, an, cdv, ct, osl, rfl, lk, hcd⟩ := F.ex
  refine fnG_of lk hcd S size fun A outer s H vs Q E hgd hr hs => ?_
  obtain ⟨t, h, q⟩ := hbody cdv A outer s H vs Q E hgd hr hs
  exact ⟨t, h.nox, q⟩

/-- a def of the text, where its code object is asked for: k is what stands of it in the written part -/
theorem okC {x qual : Str} {st : Stmt} {N : List Str} {oc : Value} {od an : Option Addr} {osl : Array (Option Value)} {kV doc pm cdv ct : Value}
    (lk : K.lookup f = some ⟨oc, od, .func (PySem.W.fnOf x qual (defArgs st) (defBody st) (defScope st) .none kV doc pm an cdv ct), osl⟩)
    (hcd : PySem.W.codeIn K cdv qual = true) (S : FnScope N ps (defScope st))
    (size : ∀ vs H Q E, sp vs H Q E → vs.length = ps.length)
    (hbody : ∀ (A : Around) (outer : List Env) (s : Shared) (H : Hp) (vs : List V) (Q : VK) (E : XK),
      Room k (A.deeper (envOfC qual (defScope st) s.heap.objs.size f cdv)) → sp vs H Q E →
      ∃ t, PSs (cxOf CX0 P w K mg base N qual (defScope st) f cdv A outer s H E).nox (defBody st) t ∧
        t { nx := fun _ H' => Q .non H', rt := Q } (start N vs) H) :
    FnOk P w K mg base CX0 (k + 1) f (PySem.W.fnOf x qual (defArgs st) (defBody st) (defScope st) .none kV doc pm an cdv ct) ps sp := by
  refine fn_of lk hcd S size fun A outer s H vs Q E hr hs => ?_
  obtain ⟨t, h, q⟩ := hbody A outer s H vs Q E hr hs
  exact ⟨t, h.nox, q⟩
end

section
variable {X : Cx} {CX : CXT} {k : Nat} {f : Addr} {fd : FuncData} {ps : List Str} {sp : Sp} {dvs : List V}
variable {ds : List Value} {E : XK} {x : Str} {p pos : Pos} {e : Expr} {es : List Expr} {t : TA}
/-- a call of such a def -/
theorem pe_callG (F : FnG X.prog X.w X.K X.mg X.base CX k f fd ps sp) (hgd : X.A.guards = some []) (hr : Room k X.A) (hg : Gl X x)
    (hm : X.mg x = some (.ref f)) (hk : PySem.W.keepIn X.K (.ref f) = true) (hb : Binds X.K fd ps ds) (hd : Vals dvs ds) (hx : Passes CX X E)
    (ha : PA X (e :: es) t) (hdb : (x == ("__debug__" : Str)) = false := by decide)
    (he : starEach (e :: es) X.env = (false, eval e X.env) :: starEach es X.env := by rfl)
    (hpl : (backTo pos (starEach es X.env)).any (·.1) = false := by rfl) :
    PE X (.Call (.Name x p) (e :: es) [] pos) (tCall sp dvs E t) := by
  refine ⟨fun pins s σ H Q I h => wpAny_Call_Name_kw (ld_glob I hg hm ?_ hdb)⟩
  refine PySem.W.callWith_K (h₀ := X.base) I.ok.mod.kin hk (thn (ha.run pos pins s σ H _ I h) fun us s1 hh => ?_) he hpl
  obtain ⟨vs, H1, I1, r, q⟩ := hh
  refine ⟨I1.kIn, ?_⟩
  have r2 : Vals (vs ++ dvs) (us ++ ds) := r.append hd
  have hl : (us ++ ds).length = ps.length := by
    rw [← r2.length]
    exact F.size _ _ _ _ q
  refine wpAny_call (codeAny_mono (F.go X.A X.stack s1 H1 ⟨us, []⟩ (us ++ ds) (vs ++ dvs) Q E hgd hr I1.env0 (hb s1 us I1.kIn hl) r2 q) fun r s' hq => ?_)
  cases r with
  | error e => exact hx pins σ H1 s1 e s' I1 hq
  | ok fl =>
    cases fl with
    | ret u => exact I1.after hq
    | next => exact hq.elim
    | brk => exact hq.elim
    | cont => exact hq.elim

/-! ### repr of data -/
/-- repr(x) of none-free data: what it shows -/
theorem cr_repr (hgd : X.A.guards = some []) (hu : X.A.units + 64 < cLine) : CallR X (.builtin "repr") (fun xs H Q => ∃ (v : V) (d : PyData), xs = [v] ∧ Dp X.K H v d ∧ d ≠ .none ∧
    d.showable = true ∧ d.hasDict = false ∧ d.depth ≤ 60 ∧ d.shown.length ≤ sizeLine ∧ Q (.str d.shown) H) := by
  intro pins s σ H xs us Q I r h
  obtain ⟨v, d, rfl, hd, hnn, hs, hn, hdp, hz, q⟩ := h
  obtain ⟨u, rfl, ru⟩ := vals1 r
  have fin : ∀ tk, EP X pins σ Q (.str d.shown tk) s := fun tk => ⟨.str _, H, I, ⟨_, rfl⟩, q⟩
  cases hd with
  | non => exact absurd rfl hnn
  | bl b =>
    obtain rfl : u = Value.bool b := ru
    refine PySem.P.repr_of_bool ?_
    have e : (PyData.bool b).shown = (if b then ("True" : Str) else "False") := by
      simp only [PyData.shown]
    rw [e] at q
    cases b
    · exact ⟨.str _, H, I.tok _, ⟨_, rfl⟩, q⟩
    · exact ⟨.str _, H, I.tok _, ⟨_, rfl⟩, q⟩
  | int i =>
    obtain ⟨t, rfl⟩ := ru
    refine PySem.P.repr_of_int ?_ ⟨.str _, H, I.tok _, ⟨_, rfl⟩, ?_⟩
    · simpa only [PyData.showable, decide_eq_true_eq] using hs
    · simpa only [PyData.shown] using q
  | str a =>
    obtain ⟨t, rfl⟩ := ru
    refine PySem.P.repr_of_str ⟨.str _, H, I.tok _, ⟨_, rfl⟩, ?_⟩ ?_
    · simpa only [PyData.shown] using q
    · simpa only [PyData.shown] using hz
  | lst hs' ha' =>
    obtain rfl : u = Value.ref _ := ru
    obtain ⟨as, rr⟩ := Dp.reads I _ _ _ (Dp.lst hs' ha') rfl
    exact repr_of_reads' rr hs (PyData.noDict_hsm hn) hgd (by omega) (fun _ _ e => e)
      (fun h' u tk hk => ⟨.str _, H, I.kept hk, ⟨_, rfl⟩, q⟩) hz
  | tup hs' ha' =>
    obtain rfl : u = Value.ref _ := ru
    obtain ⟨as, rr⟩ := Dp.reads I _ _ _ (Dp.tup hs' ha') rfl
    exact repr_of_reads' rr hs (PyData.noDict_hsm hn) hgd (by omega) (fun _ _ e => e)
      (fun h' u tk hk => ⟨.str _, H, I.kept hk, ⟨_, rfl⟩, q⟩) hz
end
end GD

set_option maxRecDepth 100000
set_option maxHeartbeats 4000000
namespace GD
open PySem PySem.Spec PyProof.Rows L2

/-- an empty table of a code object -/
abbrev tb0 : Obj := { cls := .none, data := .fields #[] }
/-- the script as it is laid -/
abbrev so (vs : List Value) : Obj := { cls := .type "list", data := .seq vs.toArray }
/-- at the entry: the tables at T, and the script unless it belongs to the written part -/
def atEntry (K : PySem.W.Frag) (T : List Addr) (a : Addr) (vs : List Value) (ns : List Int) : Hp := fun b =>
  if b ∈ T then some (.tbl #[]) else if b = a ∧ K.lookup a = none then some (.frz (so vs) (.lst (ns.map V.int))) else none

section
variable {P : Program} {w : World} {K : PySem.W.Frag} {mg mb : Str → Option Value} {CX : CXT} {k : Nat} {fa a : Addr}
variable {cs : List (Addr × Addr)} {fd : FuncData} {x : Str} {sp : Sp} {s₁ : Shared} {vs : List Value} {ns : List Int}
theorem entry_call (kx : K.In s₁.heap) (hns : s₁.heap.Ns mainGlobals mg) (hb : s₁.heap.Ns builtinsNs mb)
    (hbb : ∀ x : Str, x ≠ "__name__" → mb x = bootBuiltins x) (hlim : s₁.heap.NoLimit) (hg : s₁.gens = #[])
    (hT : ∀ p ∈ cs, s₁.heap.get? p.2 = some tb0) (nT : ∀ p ∈ cs, K.lookup p.2 = none) (C : ∀ p ∈ cs, PySem.W.CodeHd s₁.heap p.1 p.2)
    (hbm : ∃ (bm : Addr) (ob : Obj), mg "__builtins__" = some (.ref bm) ∧ bm ≠ builtinsNs ∧ s₁.heap.get? bm = some ob ∧
      ob.cls = .type "module" ∧ ob.dict = some builtinsNs ∧ ob.data = .plain)
    (ha : s₁.heap.get? a = some (so vs)) (hi : IntsAre vs ns) (hl : ns.length ≤ sizeLine) (hr : Room k callerA)
    (F : ∀ base : Heap, K.In base → base.Ns mainGlobals mg → (∀ p ∈ cs, GxR.TabB base mg p.1 p.2) → FnG P w K mg base CX k fa fd [x] sp)
    (hbind : ∀ (s : Shared) (u : Value), BindsTo s fd ⟨[u], []⟩ [(x, u)])
    (hsp : ∀ H : Hp, (∀ p ∈ cs, H p.2 = some (.tbl #[])) → SqL K H a (ns.map V.int) → sp [.ref a] H (fun v _ => v = .bl true) fun _ _ _ => False)
    (hCX : ∀ H e s', CX [] H s₁ (fun _ _ _ => False) e s' → False) :
    codeAny (model P w) callerA (.call (.ref fa) ⟨[.ref a], []⟩)
      (fun r s' => r = .ok (.ret (.bool true)) ∧ OldK s₁.heap s'.heap ∧ s'.os = s₁.os ∧ AllBare s'.gens) s₁ := by
  obtain ⟨T, eT⟩ : ∃ T, T = cs.map (·.2) := ⟨_, rfl⟩
  have inT : ∀ p ∈ cs, p.2 ∈ T := fun p hp => eT ▸ List.mem_map.mpr ⟨p, hp, rfl⟩
  have ofT : ∀ b ∈ T, s₁.heap.get? b = some tb0 ∧ K.lookup b = none := fun b hb => by
    rw [eT] at hb
    obtain ⟨p, hp, rfl⟩ := List.mem_map.mp hb
    exact ⟨hT p hp, nT p hp⟩
  have aT : a ∉ T := fun z => by
    have q := (ofT a z).1
    rw [ha] at q
    cases (congrArg Obj.data (Option.some.inj q) : Data.seq vs.toArray _ = Data.fields #[])
  have rv : Vals (ns.map V.int) vs := vals_ints hi
  obtain ⟨H, eH⟩ : ∃ H, H = atEntry K T a vs ns := ⟨_, rfl⟩
  have hTb : ∀ b ∈ T, H b = some (.tbl #[]) := fun b hb => by rw [eH]; exact if_pos hb
  have hAb : K.lookup a = none → H a = some (.frz (so vs) (.lst (ns.map V.int))) := fun z => by
    rw [eH]
    exact (if_neg aT).trans (if_pos ⟨rfl, z⟩)
  have hOt : ∀ b, b ∉ T → ¬(b = a ∧ K.lookup a = none) → H b = none := fun b h1 h2 => by
    rw [eH]
    exact (if_neg h1).trans (if_neg h2)
  have cases3 : ∀ b, (b ∈ T ∧ H b = some (.tbl #[])) ∨ ((b = a ∧ K.lookup a = none) ∧ H b = some (.frz (so vs) (.lst (ns.map V.int)))) ∨ (b ∉ T ∧ H b = none) := fun b => by
    by_cases h1 : b ∈ T
    · exact .inl ⟨h1, hTb b h1⟩
    · by_cases h2 : b = a ∧ K.lookup a = none
      · exact .inr (.inl ⟨h2, by rw [h2.1]; exact hAb h2.2⟩)
      · exact .inr (.inr ⟨h1, hOt b h1 h2⟩)
  have hok : HOk P w H s₁.heap := fun b u e => by
    rcases cases3 b with ⟨h1, h2⟩ | ⟨⟨rfl, h1⟩, h2⟩ | ⟨_, h2⟩
    · rw [h2] at e
      cases e
      exact (ofT b h1).1
    · rw [h2] at e
      cases e
      exact ⟨ha, by rw [List.length_map]; exact hl, vs, _, rv, ha⟩
    · rw [h2] at e
      cases e
  have hS : SqL K H a (ns.map V.int) := by
    cases hk : K.lookup a with
    | none => exact .inl (.inr ⟨so vs, hAb hk⟩)
    | some o =>
      have e := kx a o hk
      rw [ha] at e
      cases e
      exact .inr ⟨_, vs.toArray, _, hk, rfl, rfl, rfl, by rw [List.size_toArray, hi.length]; exact hl, by simpa using rv⟩
  -- what is neither a sequence nor an empty table is not tracked
  have plain : ∀ {b : Addr} {o : Obj}, s₁.heap.get? b = some o → (∀ us n, o.data ≠ .seq us n) → o.data ≠ .fields #[] → H b = none := fun {b o} e h1 h2 => by
    rcases cases3 b with ⟨q, _⟩ | ⟨⟨rfl, _⟩, _⟩ | ⟨_, q⟩
    · have q := (ofT b q).1
      rw [e] at q
      cases q
      exact (h2 rfl).elim
    · rw [ha] at e
      cases e
      exact (h1 _ _ rfl).elim
    · exact q
  have stay : ∀ {b : Addr} {o : Obj}, s₁.heap.get? b = some o → H b = none → (hidT s₁.heap H).get? b = some o := fun e n => hidT_get e n
  have nsB : ∀ {b : Addr} {m : Str → Option Value}, s₁.heap.Ns b m → (hidT s₁.heap H).Ns b m := fun {b m} ⟨o, es, ep, e, d, r⟩ =>
    ⟨o, es, ep, stay e (plain e (fun us n z => by rw [d] at z; cases z) fun z => by rw [d] at z; cases z), d, r⟩
  have kB : K.In (hidT s₁.heap H) := fun b o e => stay (kx b o e) (by
    rcases cases3 b with ⟨q, _⟩ | ⟨⟨rfl, q⟩, _⟩ | ⟨_, q⟩
    · rw [(ofT b q).2] at e
      cases e
    · rw [q] at e
      cases e
    · exact q)
  have mB : L2.Mod K mg (hidT s₁.heap H) := ⟨kB, nsB hns, ⟨mb, nsB hb, hbb⟩, let ⟨mc, h1, h2⟩ := hlim; ⟨mc, nsB h1, h2⟩⟩
  have notNs : ∀ b o, s₁.heap.get? b = some o → (∃ us, o.data = .fields us) ∨ o.data = .plain → mainGlobals ≠ b := fun b o e h z => by
    obtain ⟨o2, es, ep, e2, d, _⟩ := hns
    rw [z, e] at e2
    cases e2
    rcases h with ⟨us, h⟩ | h
    · rw [h] at d
      cases d
    · rw [h] at d
      cases d
  have tB : ∀ p ∈ cs, GxR.TabB (hidT s₁.heap H) mg p.1 p.2 := fun p hp => by
    have hp0 := hT p hp
    refine ⟨?_, ?_, notNs p.2 _ hp0 (.inl ⟨_, rfl⟩)⟩
    · obtain ⟨o, us, file, tf, flags, tg, inF, text, tt, e1, r1, r2, r3, rest⟩ := C p hp
      refine ⟨o, us, file, tf, flags, tg, inF, text, tt, stay e1 (plain e1 (fun vs n z => ?_) fun z => ?_), r1, r2, r3, rest⟩
      · rw [r2] at z
        cases z
      · rw [r2] at z
        cases z
        simp at r3
    · obtain ⟨bm, ob, b1, b2, b3, b4, b5, b6⟩ := hbm
      refine ⟨bm, ob, b1, b2, (notNs bm ob b3 (.inr b6)).symm, fun z => ?_, stay b3 (plain b3 (fun vs n z => ?_) fun z => ?_), b4, b5, b6⟩
      · rw [z, hp0] at b3
        cases b3
        cases b6
      · rw [b6] at z
        cases z
      · rw [b6] at z
        cases z
  have z0 : Env0 P w K mg (hidT s₁.heap H) callerA [] s₁ H :=
    ⟨rfl, mB, fun b o e => of_hidT e, Nat.le_of_eq (hidT_size _ _), trivial, (fun b hb => by cases hb), hok, .of_eq hg⟩
  refine codeAny_mono ((F _ kB (nsB hns) tB).go callerA [] s₁ H ⟨[.ref a], []⟩ [.ref a] [.ref a] _ _ rfl hr z0 (hbind s₁ (.ref a))
    (.cons rfl .nil) (hsp H (fun p hp => hTb p.2 (inT p hp)) hS)) fun r s' h => ?_
  cases r with
  | error e => exact (hCX H e s' h).elim
  | ok fl =>
    cases fl with
    | next => exact h.elim
    | brk => exact h.elim
    | cont => exact h.elim
    | ret u =>
      obtain ⟨v, H', os, bare, un, hok', r', q⟩ := h
      obtain rfl : v = .bl true := q
      obtain rfl : u = Value.bool true := r'
      have same : ∀ b o, b ∉ T → s₁.heap.get? b = some o → s'.heap.get? b = some o := fun b o nb e => by
        rcases cases3 b with ⟨q, _⟩ | ⟨_, q⟩ | ⟨_, q⟩
        · exact absurd q nb
        · obtain ⟨e1, _⟩ := hok b _ q
          obtain ⟨e2, _⟩ := hok' b _ (un.frzs b _ _ q)
          rw [e] at e1
          cases e1
          exact e2
        · exact un.keep b o e q (fun z => by cases z) (by simp)
      have grown : ∀ p ∈ cs, ∃ more : Array Value, s'.heap.get? p.2 = some { cls := .none, data := .fields more } := fun p hp => by
        obtain ⟨more, z⟩ := un.tbls p.2 #[] (hTb p.2 (inT p hp))
        exact ⟨_, hok' p.2 _ z⟩
      refine ⟨rfl, ⟨fun b o e => ?_, fun b o e => ?_⟩, os, bare⟩
      · by_cases hb : b ∈ T
        · rw [eT] at hb
          obtain ⟨p, hp, rfl⟩ := List.mem_map.mp hb
          obtain ⟨more, hm⟩ := grown p hp
          rw [hT p hp] at e
          cases e
          exact .inr (.inl ⟨((C p hp).tab (hT p hp)).isCodeTable, rfl, #[], more, rfl, by rw [Array.empty_append]; exact hm⟩)
        · exact .inl (same b o hb e)
      · by_cases hb : b ∈ T
        · rw [eT] at hb
          obtain ⟨p, hp, rfl⟩ := List.mem_map.mp hb
          obtain ⟨more, hm⟩ := grown p hp
          exact ⟨_, hm⟩
        · exact ⟨o, same b o hb e⟩
end

/-- the table of the top's def dn: its code object c, the table P -/
def TabsAt (q : Program) (K : PySem.W.Frag) (mg : Str → Option Value) (h : Heap) : Prop :=
  ∀ (dn : Str) (f c P : Addr) (o : Obj) (fd : FuncData) (e : Value) (dd : Option Addr) (us : Array Value) (sl : Array (Option Value)),
    ((recsOf q).any fun r => r.name == dn) = true → mg dn = some (.ref f) → K.lookup f = some o → o.data = .func fd → fd.code = .ref c →
    K.lookup c = some ⟨e, dd, .fields us, sl⟩ → us[11]? = some (.ref P) → h.get? P = some tb0 ∧ PySem.W.CodeHd h c P

/-- what is to be shown of the law's def at the head's heap h -/
def LawG (l : PySem.W.OpenLaw) (w : World) (K : PySem.W.Frag) (CX : CXT) (k n : Nat) (x : Str) (mg : Str → Option Value) (fa : Addr) (h : Heap) : Prop :=
  ∃ (fd : FuncData) (cs : List (Addr × Addr)) (sp : Sp), (∀ p ∈ cs, h.get? p.2 = some tb0) ∧ (∀ p ∈ cs, K.lookup p.2 = none) ∧
    (∀ p ∈ cs, PySem.W.CodeHd h p.1 p.2) ∧ (∀ (s : Shared) (u : Value), BindsTo s fd ⟨[u], []⟩ [(x, u)]) ∧
    (∀ (H : Hp) (a : Addr) (ns : List Int), ns.length ≤ n → (∀ z ∈ ns, Builtin.Int.intBits z ≤ 1048576) → (∀ p ∈ cs, H p.2 = some (.tbl #[])) →
      SqL K H a (ns.map V.int) → sp [.ref a] H (fun v _ => v = .bl true) fun _ _ _ => False) ∧
    ∀ base : Heap, K.In base → base.Ns mainGlobals mg → (∀ p ∈ cs, GxR.TabB base mg p.1 p.2) → FnG l.prog w K mg base CX k fa fd [x] sp

theorem walk_ofG {l : PySem.W.OpenLaw} {n k : Nat} {q : Program} {loose : List Str} {XP : (Str → Option Value) → Heap → Prop}
    {YP : World → Heap → Prop} {d : DefRec} {K : Params → PySem.W.Frag} {CX : World → CXT} {x : Str}
    (hn : l.most = some n) (hn2 : n ≤ sizeLine) (hdf : d.params.defaults = []) (hr : Room k callerA)
    (hY : ∀ (w : World) (h : Heap), YP w h → (K w.params).In h)
    (F : ∀ (w : World) (mg : Str → Option Value) (fa : Addr) (h : Heap), YP w h → (K w.params).In h → h.Ns mainGlobals mg →
      mg d.name = some (.ref fa) → TabsAt q (K w.params) mg h → LawG l w (K w.params) (CX w) k n x mg fa h)
    (hCX : ∀ (w : World) (H : Hp) (s : Shared) (e : Value) (s' : Shared), CX w [] H s (fun _ _ _ => False) e s' → False) :
    PySem.W.WalkO q loose XP YP l.row.toRowW d [] (fun f vs => PySem.call f vs) := by
  refine Att.attach_callB hn hdf fun w s₀ s₁ mg mb fa o pm cd doc a vs ns G Y ho hd hcd hmg hobj hints hlen hbits hg => ?_
  have kx := hY w _ Y
  have tabs : TabsAt q (K w.params) mg s₁.heap := fun dn f c P o fd e dd us sl h1 h2 h3 h4 h5 h6 h7 => by
    obtain ⟨r, hr1, hr2⟩ := List.any_eq_true.mp h1
    obtain rfl : r.name = dn := beq_iff_eq.mp hr2
    obtain ⟨a', o', fd', c', P', g1, g2, g3, g4, g5, g6⟩ := G.T.tab r hr1
    rw [h2] at g1
    cases g1
    have z1 := kx _ _ h3
    rw [z1] at g2
    cases g2
    rw [h4] at g3
    cases g3
    rw [h5] at g4
    cases g4
    have hd := PySem.W.CodeHd.of g5 g6
    obtain ⟨⟨oc, vc, e1, _, e3, e4⟩, hP⟩ := g6
    have z2 := kx _ _ h6
    rw [z2] at e1
    cases e1
    cases e3
    rw [h7] at e4
    cases e4
    exact ⟨hP, hd⟩
  obtain ⟨fd, cs, sp, hT, nT, C, hb, hsp, hF⟩ := F w mg fa _ Y kx G.T.g hmg tabs
  exact entry_call kx G.T.g G.T.b G.T.builtins G.T.nolimit hg hT nT C G.T.bmain hobj hints (Nat.le_trans hlen hn2) hr hF hb
    (fun H hH hS => hsp H a ns hlen hbits hH hS) fun H e s' => hCX w H s₁ e s'
end GD

set_option maxRecDepth 100000
set_option maxHeartbeats 4000000
namespace GD
open PySem PySem.Spec PyProof.Rows L2

/-- the element of a generator over the signs of a text, where it may call a def of the module: a test of the sign c -/
def EltD (X : Cx) (scope : Scope) (x : Str) (elt : Expr) (pb : Nat → Bool) : Prop :=
  ∀ (cenv : Env) (A' : Around) (E' : Value → Shared → Prop) (c : Nat) (t : Tok) (s₂ : Shared) (m₂ : Str → Option Value),
    cenv.scope = scope → cenv.globals = X.env.globals → A'.handled = none → A'.depth ≤ X.A.depth + 1 → A'.units ≤ X.A.units + 8 →
    (∀ b o, X.base.get? b = some o → s₂.heap.get? b = some o) → s₂.heap.Ns cenv.locals m₂ → m₂ x = some (.str ⟨#[c]⟩ t) →
    wpAny (model X.prog X.w) A' (eval elt cenv) (fun y s₃ => y = .bool (pb c) ∧ Keeps s₂ s₃) E' s₂

section
variable {X : Cx} {pins : List (Addr × Obj)} {σ : L2.St} {H : Hp} {s : Shared}
theorem gen_signs {c P : Addr} {elt iter : Expr} {x : Str} {px gpos : Pos} {scope : Scope} {pb : Nat → Bool} {te : TE} {k : Nat}
    {Q' : Value → Shared → Prop} {R : Str → Hp → Prop} (hr : Room k X.A) (TB : GxR.TabB X.base X.mg c P) (hcode : X.env.code = .ref c)
    (S : GxR.GenS X.env scope x) (hi : PE X iter te) (hel : L2.Mod X.K X.mg X.base → EltD X scope x elt pb) (hs : ∀ v, genFold iter X.env v = pure v) (I : Inv X pins σ H s)
    (h : te σ H fun v H1 => ∃ a : Str, v = .str a ∧ GxR.TabG H1 P ∧ R a H1)
    (hQ : ∀ a H1 g s5, R a H1 → GxR.Ready X pins σ H1 P a pb g s5 → Q' (.ref g) s5) :
    wpAny (model X.prog X.w) X.A (eval (.GeneratorExp elt [⟨.Name x px, iter, [], 0⟩] scope gpos) X.env) Q' X.xe s := by
  refine wpAny_GeneratorExp_walksQD hr.hd S.co (closure_ok S.free) S.cell S.dot S.loc S.kind (by have := hr.dp; omega) ?_ hs
  refine thn (hi.run pins s σ H _ I h) fun xv s1 hv => ?_
  obtain ⟨v, H1, I1, r1, a, rfl, ⟨ps, hP, ht⟩, q1⟩ := hv
  obtain ⟨t, rfl⟩ := _root_.id r1
  refine wpAny_pyIter_str fun o St W hst => ?_
  have hP1 : s1.heap.get? P = some { cls := .none, data := .fields ps } := I1.hok P _ hP
  have ltP : P < s1.heap.objs.size := Heap.lt_size hP1
  have up : ∀ b u, s1.heap.get? b = some u → (s1.heap.push o).get? b = some u := fun b u e => Heap.get?_push_of_some _ e
  have cd : PySem.W.CodeHd (s1.heap.push o) c P := TB.code.keeps fun b u e => up b u (I1.bk b u e)
  have nl2 : (s1.heap.push o).NoLimit := I1.nolimit.push o
  have sz2 : (s1.heap.push o).objs.size = s1.heap.objs.size + 1 := Heap.size_push ..
  have rest : ∀ (code : Value) (h3 : Heap) (tk : Nat) (qs : Array Value), Heap.ExtBut P (s1.heap.push o) h3 → (s1.heap.push o).objs.size ≤ h3.objs.size →
      h3.get? P = some { cls := .none, data := .fields qs } → (∃ more, qs = ps ++ more) → TriplesOk qs.toList →
      wpAny (model X.prog X.w) X.A (builtinsFor X.env.globals X.env.builtins) (fun bi s₄ =>
        ∃ Ia fp wr n₀ Pf St₀ pz F, Value.ref s1.heap.objs.size = .ref Ia ∧ (∀ A' : Around, A'.handled = none → Walks X.prog X.w A' Ia fp wr n₀ Pf St₀) ∧
          St₀ 0 s₄.heap ∧ (∀ b ∈ fp, b < s₄.heap.objs.size) ∧ s₄.heap.NoLimit ∧ cStatics ∉ wr ∧
          (∀ href : Heap, (∀ b o, s₄.heap.get? b = some o → href.get? b = some o) →
            QuietGenD X.prog X.w (genEnv scope (cloFrom X.env.cells scope.names []) s₄.heap.objs.size code bi X.env) x [] elt
              (List.range s₄.heap.objs.size) wr Pf pz F href (X.A.depth + 1) (X.A.units + 8)) ∧
          (∀ a h₅ tk gs, gs.bare = true → s₄.heap.objs.size < a → h₅.objs.size = a + 1 → (∀ b o, s₄.heap.get? b = some o → h₅.get? b = some o) →
            WalksS X.prog X.w X.A.in4 a (a :: s₄.heap.objs.size :: List.range s₄.heap.objs.size) (s₄.heap.objs.size :: wr) (GenOnlyQ s₄.gens.size)
              (passing pz n₀ 0).length (fun j y => ∃ i, (passing pz n₀ 0)[j]? = some i ∧ F i y)
              (GenAt X.prog X.w X.A.in4 a s₄.gens.size s₄.heap.objs.size (List.range s₄.heap.objs.size) wr pz n₀ F) →
            GenAt X.prog X.w X.A.in4 a s₄.gens.size s₄.heap.objs.size (List.range s₄.heap.objs.size) wr pz n₀ F 0 { s₄ with gens := s₄.gens.push gs, toks := tk, heap := h₅ } →
            Q' (.ref a) { s₄ with gens := s₄.gens.push gs, toks := tk, heap := h₅ })) X.xe { s1 with heap := h3, toks := tk } := by
    intro code h3 tk qs hx hsz hP3 hmore ht3
    obtain ⟨bm, ob, e1, e2, e3, e4, e5, e6, e7, e8⟩ := TB.bm
    have hcl : cStatics < s1.heap.objs.size := let ⟨_, hns, _⟩ := I1.nolimit; hns.lt
    have hcP : cStatics ≠ P := fun e => by
      obtain ⟨_, ⟨o', es, ep, ho, hd, _⟩, _⟩ := I1.nolimit
      rw [e, hP1] at ho
      cases ho
      cases hd
    have k3 : ∀ b u, b ≠ P → s1.heap.get? b = some u → h3.get? b = some u := fun b u hb e => hx b u hb (up b u e)
    have kbase : ∀ b u, X.base.get? b = some u → h3.get? b = some u := fun b u e => k3 b u (fun z => by
      have q := (I1.bs b u e).2
      rw [z, hP] at q
      cases q) (I1.bk b u e)
    refine wpAny_builtinsFor (m := X.mg) (by rw [I1.ok.glob]; exact ((I1.mod.glob.keeps I1.bk).push o).extBut hx TB.gP) e1 e2 (k3 _ _ e4 (I1.bk _ _ e5)) e6 e7 e8 ?_
    refine ⟨s1.heap.objs.size, [s1.heap.objs.size], [s1.heap.objs.size], a.cps.size, SignAt a, St, (fun _ => true), (fun i y => ∃ cc, a.cps[i]? = some cc ∧ y = .bool (pb cc)), rfl, W, ?_, ?_, nl2.extBut hx hcP, ?_, ?_, ?_⟩
    · refine (W X.A hr.hd).frame _ _ _ hst fun b hb u e => hx b u (fun z => ?_) e
      obtain rfl : b = s1.heap.objs.size := by simpa using hb
      exact Nat.ne_of_lt ltP z.symm
    · intro b hb
      obtain rfl : b = s1.heap.objs.size := by simpa using hb
      show s1.heap.objs.size < h3.objs.size
      omega
    · intro z
      obtain z : cStatics = s1.heap.objs.size := by simpa using z
      exact Nat.ne_of_lt hcl z
    · intro href hhref
      refine ⟨fun A' E' i v s₂ m₂ hA hD hU hPv hn hm hk => ?_, fun A' E' i v s₂ m₂ hA hD hU hPv hp hn hm hk => ?_⟩
      · simp only [List.forIn_nil]
        exact wpAny_pure ⟨rfl, GxR.keeps_refl _⟩
      · obtain ⟨cc, u, hcc, rfl⟩ := hPv
        have kb : ∀ b o, X.base.get? b = some o → s₂.heap.get? b = some o := fun b o e =>
          hk b (List.mem_range.mpr (Heap.lt_size (kbase b o e))) (fun z => by
            obtain z : b = s1.heap.objs.size := by simpa using z
            exact Nat.ne_of_lt (Heap.lt_size (I1.bk b o e)) z) o (hhref b o (kbase b o e))
        exact wpAny_mono (hel I1.ok.mod _ A' E' cc u s₂ m₂ rfl rfl hA hD hU kb hn hm) (fun y s3 r => ⟨⟨cc, hcc, r.1⟩, r.2⟩) fun _ _ e => e
    · intro g h5 tk5 gs hgb hag hsz5 hk5 W5 hat
      simp only [GxR.passing_true, List.length_range] at W5
      refine hQ a H1 g _ q1 ⟨_, _, _, _, _, W5.in4_1, hat, fun j y sj Qj Ej hy hQj => ?_, fun s' hm => ?_⟩
      · obtain ⟨i, hij, cc, hcc, rfl⟩ := hy
        obtain ⟨hj, ej⟩ := List.getElem?_eq_some_iff.mp hij
        rw [List.getElem_range] at ej
        subst ej
        have e9 : a.cps.toList[j]? = some cc := by
          rw [Array.getElem?_toList]
          exact hcc
        have q2 : Qj (GxR.trF pb a.cps.toList j) sj := hQj
        rw [GxR.trF_some e9] at q2
        exact wpAny_truthy_bool q2
      · obtain ⟨more, em⟩ := hmore
        have nwr : ∀ b u, s1.heap.get? b = some u → b ∉ h3.objs.size :: [s1.heap.objs.size] := fun b u e hb => by
          have hl := Heap.lt_size e
          rcases List.mem_cons.mp hb with z | z
          · rw [z] at hl
            have h9 : (h3.objs.size : Nat) < s1.heap.objs.size := hl
            omega
          · obtain z : b = s1.heap.objs.size := by simpa using z
            exact Nat.ne_of_lt hl z
        have J := GxR.inv_tab (more := more) (h' := s'.heap) (g' := s'.gens) (d' := s'.drawn) (t' := s'.toks) I1 hP (fun b u hb e => hm.heap b u (nwr b u e) (hk5 b u (k3 b u hb e)))
          (by rw [← em]; exact hm.heap P _ (nwr P _ hP1) (hk5 P _ hP3)) (AllBare.movedS (I1.bare.push hgb) hm)
        rw [GxR.sh_eta s1 s' hm.os] at J
        exact ⟨upd H1 P (.tbl (ps ++ more)), ⟨⟨ps ++ more, upd_same, by rw [← em]; exact ht3⟩, fun b hb => upd_ne hb⟩, J⟩
  refine ⟨nl2, ?_⟩
  have hP2 := up P _ hP1
  cases hf : codeAmong gpos ps.toList with
  | none =>
    refine wpAny_genexprCodeX hcode (cd.code hP2 ht) (cd.tab hP2) hf fun c' h' tk hx hge hlt hco' _ htab' _ => ?_
    obtain ⟨o1, vs, f1, tf, fl, tg, inF, tx, tt, op, _, _, _, _, _, _, _, _, _, htr, _⟩ := hco'
    exact rest _ h' tk _ hx (Nat.le_trans hge (Nat.le_of_lt hlt)) htab'.2 ⟨_, rfl⟩ htr
  | some cv =>
    refine wpAny_genexprCode_hit hcode (cd.code hP2 ht) hf ?_
    exact rest cv (s1.heap.push o) s1.toks ps (Heap.ExtBut.refl _ _) (Nat.le_refl _) hP2 ⟨#[], by simp⟩ ht

/-- all(test for x in e) -/
theorem pe_allD {c P : Addr} {elt iter : Expr} {x : Str} {px p pos gpos : Pos} {scope : Scope} {pb : Nat → Bool} {te : TE} {k : Nat}
    (hr : Room k X.A) (hg : Gl X "all") (hm : X.mg "all" = none) (TB : GxR.TabB X.base X.mg c P) (hcode : X.env.code = .ref c) (S : GxR.GenS X.env scope x)
    (hi : PE X iter te) (hel : L2.Mod X.K X.mg X.base → EltD X scope x elt pb) (hs : ∀ v, genFold iter X.env v = pure v)
    (he : starEach [.GeneratorExp elt [⟨.Name x px, iter, [], 0⟩] scope gpos] X.env = (false, eval (.GeneratorExp elt [⟨.Name x px, iter, [], 0⟩] scope gpos) X.env) :: starEach [] X.env := by rfl) :
    PE X (.Call (.Name "all" p) [.GeneratorExp elt [⟨.Name x px, iter, [], 0⟩] scope gpos] [] pos) (GxR.tAllS P pb te) := by
  refine ⟨fun pins s σ H Q I h => wpAny_Call_Name_kw (ld_blt I hg hm (by decide +kernel : bootBuiltins "all" = some (.builtin "all")) ?_)⟩
  refine PyProof.Rows.callWith_builtin1 ?_ he (by rfl)
  rw [he]
  show wpAny _ _ (spliced ((false, _) :: backTo pos (starEach [] X.env))) _ _ s
  refine Calls.spliced_cons (gen_signs (R := fun a H1 => ∀ H2, GxR.Tabbed P H1 H2 → Q (.bl (a.cps.toList.all pb)) H2) hr TB hcode S hi hel hs I h fun a H1 g s5 hR hG => ?_)
  obtain ⟨fp, wr, G, F, St, W, hst, htr, hI⟩ := hG
  refine Calls.spliced_nil (call_all_walkS (W.self 0 _ _ _ hst ⟨g, fp, wr, G, _, F, St, _, rfl, W, hst, htr, fun s' hmv => ?_⟩))
  obtain ⟨H2, hT, J⟩ := hI s' hmv
  refine ⟨.bl _, H2, J, rfl, ?_⟩
  rw [GxR.all_signs a pb]
  exact hR H2 hT

/-- an element that calls nothing: x in N, N a text of the module -/
theorem elt_inSigns {scope : Scope} {x n : Str} {z : Str} {tz : Tok} {p1 p2 p3 : Pos} (hgl : X.env.globals = mainGlobals) (hmod : L2.Mod X.K X.mg X.base) (hk : scope.kind = .function)
    (hl : scope.names.lookup x = some .local) (hn : scope.names.lookup n = some .globalImplicit) (hm : X.mg n = some (.str z tz))
    (hd : (x == ("__debug__" : Str)) = false := by decide) (hd2 : (n == ("__debug__" : Str)) = false := by decide) :
    EltD X scope x (.Compare (.Name x p1) [.In] [.Name n p2] p3) (fun c => decide (c ∈ z.cps.toList)) := by
  intro cenv A' E' c t s₂ m₂ hs hg hA hD hU hb hns hx
  refine wpAny_Compare1 ?_
  refine wpAny_Name (wpAny_loadName_local (by rw [hs]; exact hk) (show cenv.scope.names.lookup x = some .local by rw [hs]; exact hl) hns hx ?_) hd
  refine Calls.Name_function_global (by rw [hs]; exact hk) (show cenv.scope.names.lookup n = some .globalImplicit by rw [hs]; exact hn) (Calls.loadGlobal_global (by rw [hg, hgl]; exact hmod.glob.keeps hb) hm ?_) hd2
  refine in_str ⟨?_, GxR.keeps_refl _⟩
  rw [PySem.StrLaws.found_one z c]
end
end GD

set_option maxRecDepth 100000
set_option maxHeartbeats 4000000
/-! the mathematics of law k01: lists of codes, no Python -/
namespace K1
open PySem

def S (l : List Nat) : Str := ⟨l.toArray⟩
theorem S_toList (l : List Nat) : (S l).cps.toList = l := rfl
theorem S_len (l : List Nat) : (S l).length = l.length := by show l.toArray.size = _; simp
theorem S_of (z : Str) : S z.cps.toList = z := by cases z; rfl
theorem S_app (a b : List Nat) : S a ++ S b = S (a ++ b) := by
  show (⟨a.toArray ++ b.toArray⟩ : Str) = ⟨(a ++ b).toArray⟩
  rw [List.append_toArray]
theorem S_inj {a b : List Nat} (h : S a = S b) : a = b := congrArg (fun z : Str => z.cps.toList) h

/-! ### finding a sign -/
section
open Builtin Builtin.Str StrLaws
theorem occ_stop (s sub : Str) (hi : Nat) : ∀ (l : List Nat) (st : Array Nat × Nat), st.fst.size = 1 → (forIn l st (occBody s sub hi 1)).run.fst = st.fst
  | [], st, h => rfl
  | a :: l, st, h => by
    rw [List.forIn_cons]
    unfold occBody
    rw [if_neg (fun z => by have := z.1.1.1; omega)]
    exact occ_stop s sub hi l st h
theorem occ_first (x : Str) (c : Nat) : ∀ (m cur free : Nat), free ≤ cur →
    ((∀ k, cur ≤ k → k < cur + m → x.cps.toList[k]? ≠ some c) ∧ (forIn (List.range' cur m) ((#[] : Array Nat), free) (occBody x ⟨#[c]⟩ x.length 1)).run.fst = #[]) ∨
    ∃ k, cur ≤ k ∧ k < cur + m ∧ x.cps.toList[k]? = some c ∧ (∀ j, cur ≤ j → j < k → x.cps.toList[j]? ≠ some c) ∧ (forIn (List.range' cur m) ((#[] : Array Nat), free) (occBody x ⟨#[c]⟩ x.length 1)).run.fst = #[k]
  | 0, cur, free, h => .inl ⟨fun k h1 h2 => by omega, rfl⟩
  | m + 1, cur, free, h => by
    rw [List.range'_succ, List.forIn_cons]
    unfold occBody
    by_cases hc : x.cps.toList[cur]? = some c
    · have q := (subAt_one x c cur).mpr hc
      rw [if_pos ⟨⟨⟨by simp, h⟩, q.1⟩, q.2⟩]
      refine .inr ⟨cur, Nat.le_refl _, by omega, hc, fun j h1 h2 => by omega, ?_⟩
      exact occ_stop x _ _ _ _ rfl
    · rw [if_neg (fun z => hc ((subAt_one x c cur).mp ⟨z.1.2, z.2⟩))]
      rcases occ_first x c m (cur + 1) free (by omega) with ⟨h1, h2⟩ | ⟨k, h1, h2, h3, h4, h5⟩
      · refine .inl ⟨fun k k1 k2 => ?_, h2⟩
        by_cases e : k = cur
        · rw [e]; exact hc
        · exact h1 k (by omega) (by omega)
      · refine .inr ⟨k, by omega, by omega, h3, fun j j1 j2 => ?_, h5⟩
        by_cases e : j = cur
        · rw [e]; exact hc
        · exact h4 j (by omega) j2
/-- s.find(c, i): the first place from i on -/
theorem find_one (x : Str) (c i : Nat) (hi : i ≤ x.length) :
    (Txt.find3 x ⟨#[c]⟩ (i : Nat) = -1 ∧ c ∉ x.cps.toList.drop i) ∨
    ∃ k : Nat, Txt.find3 x ⟨#[c]⟩ (i : Nat) = ((i + k : Nat) : Int) ∧ (x.cps.toList.drop i)[k]? = some c ∧ c ∉ (x.cps.toList.drop i).take k := by
  have e : fromIndex x.length (i : Nat) = i := by
    show (max (0 : Int) (if ((i : Nat) : Int) < 0 then _ else ((i : Nat) : Int))).toNat = i
    rw [if_neg (by omega)]
    omega
  unfold Txt.find3
  rw [e, occ_eq]
  have xl : x.length = x.cps.toList.length := by show x.cps.size = _; simp
  rcases occ_first x c (x.length + 1 - i) i i (Nat.le_refl _) with ⟨h1, h2⟩ | ⟨k, h1, h2, h3, h4, h5⟩
  · left
    rw [h2]
    refine ⟨rfl, fun hm => ?_⟩
    obtain ⟨j, hj⟩ := List.getElem?_of_mem hm
    rw [List.getElem?_drop] at hj
    have := (List.getElem?_eq_some_iff.mp hj).1
    exact h1 (i + j) (by omega) (by omega) hj
  · right
    rw [h5]
    refine ⟨k - i, ?_, ?_, fun hm => ?_⟩
    · show ((k : Nat) : Int) = _
      omega
    · rw [List.getElem?_drop, show i + (k - i) = k by omega]
      exact h3
    · obtain ⟨j, hj⟩ := List.getElem?_of_mem hm
      have hlt : j < k - i := by
        have := (List.getElem?_eq_some_iff.mp hj).1
        rw [List.length_take] at this
        omega
      rw [List.getElem?_take_of_lt hlt, List.getElem?_drop] at hj
      exact h4 (i + j) (by omega) (by omega) hj
end

/-! ### tokens -/
def LET : List Nat := ("abcdefghijklmnopqrstuvwxyz" : Str).cps.toList
def DIG : List Nat := ("0123456789" : Str).cps.toList
def SGN : List Nat := ("(),;+-*<=" : Str).cps.toList
def mayB (c : Nat) : Bool := decide (32 ≤ c ∧ c ≤ 126 ∧ c ≠ 37 ∧ c ≠ 34 ∧ c ≠ 124)
/-- how many of cs stand at the beginning -/
def run (cs l : List Nat) : Nat := (l.takeWhile fun c => decide (c ∈ cs)).length
def val (ds : List Nat) : Nat := ds.foldl (fun acc c => acc * 10 + (c - 48)) 0
inductive Tok where
  | word (l : List Nat) | num (n : Nat) | str (l : List Nat) | sign (c : Nat)
/-- the text of a number -/
def numT (n : Nat) : List Nat := (Str.ofString (toString (n : Int))).cps.toList
/-- how far the next quote is -/
def toQ (r : List Nat) : Nat := (r.takeWhile fun d => d != 34).length
/-- the token at the beginning, and how many signs it has -/
def lexC (c : Nat) (r : List Nat) : Option (Tok × Nat) :=
    if c ∈ LET then (if run LET (c :: r) ≤ 6 then some (.word ((c :: r).take (run LET (c :: r))), run LET (c :: r)) else none)
    else if c ∈ DIG then
      (if run DIG (c :: r) ≤ 5 ∧ (c :: r).take (run DIG (c :: r)) = numT (val ((c :: r).take (run DIG (c :: r)))) then
        some (.num (val ((c :: r).take (run DIG (c :: r)))), run DIG (c :: r)) else none)
    else if c = 34 then
      (if toQ r < r.length ∧ toQ r ≤ 20 ∧ (r.take (toQ r)).all mayB = true then some (.str (r.take (toQ r)), toQ r + 2) else none)
    else if c ∈ SGN then some (.sign c, 1) else none
/-- how a line is split -/
inductive Lex : List Nat → Option (List Tok) → Prop
  | nil : Lex [] (some [])
  | sp {r o} : Lex r o → Lex (32 :: r) o
  | bad {c r} : c ≠ 32 → lexC c r = none → Lex (c :: r) none
  | tok {c r t k o} : c ≠ 32 → lexC c r = some (t, k) → Lex ((c :: r).drop k) o → Lex (c :: r) (o.map (t :: ·))

theorem run_le (cs l : List Nat) : run cs l ≤ l.length := (List.takeWhile_sublist _).length_le
theorem run_pos {cs : List Nat} {c : Nat} {r : List Nat} (h : c ∈ cs) : 1 ≤ run cs (c :: r) := by
  unfold run
  rw [List.takeWhile_cons, if_pos (decide_eq_true h)]
  simp
theorem lexC_pos {c : Nat} {r : List Nat} {t : Tok} {k : Nat} (h : lexC c r = some (t, k)) : 1 ≤ k := by
  unfold lexC at h
  by_cases h1 : c ∈ LET
  · rw [if_pos h1] at h
    split at h
    · cases h
      exact run_pos h1
    · cases h
  rw [if_neg h1] at h
  by_cases h2 : c ∈ DIG
  · rw [if_pos h2] at h
    split at h
    · cases h
      exact run_pos h2
    · cases h
  rw [if_neg h2] at h
  by_cases h3 : c = 34
  · rw [if_pos h3] at h
    split at h
    · cases h
      omega
    · cases h
  rw [if_neg h3] at h
  split at h
  · cases h
    exact Nat.le_refl _
  · cases h
/-- every line is split in some way -/
theorem lex_all : ∀ (n : Nat) (l : List Nat), l.length ≤ n → ∃ o, Lex l o
  | _, [], _ => ⟨_, .nil⟩
  | 0, _ :: _, h => by simp at h
  | n + 1, c :: r, h => by
    have hr : r.length ≤ n := by simpa using h
    by_cases hc : c = 32
    · obtain ⟨o, ho⟩ := lex_all n r hr
      subst hc
      exact ⟨o, .sp ho⟩
    · cases e : lexC c r with
      | none => exact ⟨none, .bad hc e⟩
      | some tk =>
        obtain ⟨t, k⟩ := tk
        have hk := lexC_pos e
        obtain ⟨o, ho⟩ := lex_all n ((c :: r).drop k) (by rw [List.length_drop, List.length_cons]; omega)
        exact ⟨_, .tok hc e ho⟩
/-! ### quotes come in twos -/
def q34 (l : List Nat) : Nat := l.count 34
theorem q34_none {l : List Nat} (h : 34 ∉ l) : q34 l = 0 := List.count_eq_zero.mpr h
theorem q34_app (a b : List Nat) : q34 (a ++ b) = q34 a + q34 b := List.count_append
theorem run_take (cs l : List Nat) : l.take (run cs l) = l.takeWhile fun c => decide (c ∈ cs) := by
  unfold run
  exact (List.prefix_iff_eq_take.mp (List.takeWhile_prefix _)).symm
theorem mem_tw {p : Nat → Bool} {x : Nat} : ∀ {l : List Nat}, x ∈ l.takeWhile p → p x = true
  | [], h => by cases h
  | a :: l, h => by
    rw [List.takeWhile_cons] at h
    split at h
    · rename_i ha
      rcases List.mem_cons.mp h with rfl | h
      · exact ha
      · exact mem_tw h
    · cases h
theorem mem_run {cs l : List Nat} {c : Nat} (h : c ∈ l.take (run cs l)) : c ∈ cs := by
  rw [run_take] at h
  exact of_decide_eq_true (mem_tw h)
theorem at_tw {p : Nat → Bool} : ∀ {l : List Nat}, (l.takeWhile p).length < l.length → ∃ x, l[(l.takeWhile p).length]? = some x ∧ p x = false
  | [], h => by cases h
  | a :: l, h => by
    rw [List.takeWhile_cons] at h ⊢
    cases ha : p a with
    | true =>
      rw [ha] at h
      simp only [if_true, List.length_cons] at h ⊢
      obtain ⟨x, h1, h2⟩ := at_tw (p := p) (l := l) (by omega)
      exact ⟨x, by simpa using h1, h2⟩
    | false => exact ⟨a, by simp, ha⟩
theorem take_tw {p : Nat → Bool} (l : List Nat) : l.take (l.takeWhile p).length = l.takeWhile p := (List.prefix_iff_eq_take.mp (List.takeWhile_prefix _)).symm
theorem lexC_even {c : Nat} {r : List Nat} {t : Tok} {k : Nat} (h : lexC c r = some (t, k)) : q34 ((c :: r).take k) % 2 = 0 := by
  unfold lexC at h
  by_cases h1 : c ∈ LET
  · rw [if_pos h1] at h
    split at h
    · cases h
      rw [q34_none (fun z => absurd (mem_run z) (by decide))]
    · cases h
  rw [if_neg h1] at h
  by_cases h2 : c ∈ DIG
  · rw [if_pos h2] at h
    split at h
    · cases h
      rw [q34_none (fun z => absurd (mem_run z) (by decide))]
    · cases h
  rw [if_neg h2] at h
  by_cases h3 : c = 34
  · rw [if_pos h3] at h
    split at h
    · rename_i hk
      cases h
      subst h3
      have n1 : 34 ∉ r.take (toQ r) := fun z => by
        unfold toQ at z
        rw [take_tw] at z
        have := mem_tw z
        simp at this
      obtain ⟨x, hx, hp⟩ := at_tw (p := fun d => d != 34) (l := r) hk.1
      have hx' : x = 34 := by simpa using hp
      subst hx'
      have hx : r[toQ r]? = some 34 := hx
      rw [List.take_succ_cons, List.take_add_one, hx]
      show q34 ([34] ++ (r.take _ ++ [34])) % 2 = 0
      rw [q34_app, q34_app, q34_none n1]
      rfl
    · cases h
  rw [if_neg h3] at h
  split at h
  · cases h
    show q34 [c] % 2 = 0
    rw [q34_none (fun z => h3 (List.mem_singleton.mp z).symm)]
  · cases h
theorem lex_even {l : List Nat} {o : Option (List Tok)} (h : Lex l o) : o ≠ none → q34 l % 2 = 0 := by
  induction h with
  | nil => exact fun _ => rfl
  | sp _ ih =>
    intro h
    show q34 ([32] ++ _) % 2 = 0
    rw [q34_app]
    have := ih h
    have e : q34 [32] = 0 := rfl
    omega
  | bad _ _ => exact fun h => absurd rfl h
  | @tok c r t k o _ e _ ih =>
    intro h
    have h1 := lexC_even e
    have h2 := ih (fun z => h (by rw [z]; rfl))
    have e := q34_app ((c :: r).take k) ((c :: r).drop k)
    rw [List.take_append_drop] at e
    omega

/-! ### texts that are joined -/
/-- a token of the law's menu, spelled -/
def spell : Tok → List Nat
  | .word l => l
  | .num n => numT n
  | .str l => [34] ++ l ++ [34]
  | .sign c => [c]
/-- a token that is well made -/
def good : Tok → Prop
  | .word l => l ≠ [] ∧ l.length ≤ 6 ∧ ∀ c ∈ l, c ∈ LET
  | .num n => n ≤ 99999
  | .str l => l.length ≤ 20 ∧ ∀ c ∈ l, mayB c = true
  | .sign c => c ∈ SGN
/-- what may follow a token -/
def apart : Tok → List Nat → Prop
  | .word _, l => ∀ c r, l = c :: r → c ∉ LET
  | .num _, l => ∀ c r, l = c :: r → c ∉ DIG
  | _, _ => True
theorem run_all {cs a b : List Nat} (ha : ∀ c ∈ a, c ∈ cs) (hb : ∀ c r, b = c :: r → c ∉ cs) : run cs (a ++ b) = a.length := by
  unfold run
  rw [List.takeWhile_append_of_pos (fun c hc => decide_eq_true (ha c hc)), List.length_append]
  cases b with
  | nil => simp
  | cons c r => rw [List.takeWhile_cons, if_neg (by simpa using hb c r rfl)]; simp
theorem digits_len : ∀ (k m : Nat), m < 10 ^ (k + 1) → (Nat.toDigits 10 m).length ≤ k + 1
  | k, m, h => by
    by_cases hm : m < 10
    · rw [Nat.toDigits_of_lt_base hm]
      exact Nat.le_add_left _ _
    · cases k with
      | zero => exact absurd h hm
      | succ k =>
        have lt : m % 10 < 10 := Nat.mod_lt m (by decide)
        have t : Nat.toDigits 10 (m / 10) ++ Nat.toDigits 10 (m % 10) = Nat.toDigits 10 (10 * (m / 10) + m % 10) := Nat.toDigits_append_toDigits (by decide) (by omega) lt
        rw [Nat.div_add_mod] at t
        rw [← t, List.length_append, Nat.toDigits_of_lt_base lt]
        have := digits_len k (m / 10) (by rw [Nat.pow_succ] at h; omega)
        show (Nat.toDigits 10 (m / 10)).length + 1 ≤ k + 1 + 1
        omega
theorem numT_eq (n : Nat) : numT n = (Nat.toDigits 10 n).map Char.toNat := PySem.W.KIN.signs_num n
theorem numT_dig {n : Nat} (h : n ≤ 99999) : numT n ≠ [] ∧ (numT n).length ≤ 5 ∧ (∀ c ∈ numT n, c ∈ DIG) ∧ val (numT n) = n := by
  rw [numT_eq]
  refine ⟨fun e => ?_, ?_, fun c hc => ?_, PySem.W.KIN.val_back n⟩
  · have := PySem.W.KIN.val_back n
    have q := List.map_eq_nil_iff.mp e
    have l := toDigits_len_ge 10 n
    rw [q] at l
    exact absurd l (by decide)
  · rw [List.length_map]
    exact digits_len 4 n (by omega)
  · obtain ⟨ch, hch, e⟩ := List.mem_map.mp hc
    have r := PyProof.Rows.digit_range (Nat.isDigit_of_mem_toDigits (by decide) (by decide) hch)
    have hD : ∀ d, 48 ≤ d → d ≤ 57 → d ∈ DIG := by
      intro d h1 h2
      have : ∀ k, k < 10 → 48 + k ∈ DIG := by decide
      have q := this (d - 48) (by omega)
      rw [show 48 + (d - 48) = d by omega] at q
      exact q
    rw [← e]
    exact hD _ r.1 r.2
theorem let_dig {c : Nat} (h : c ∈ DIG) : c ∉ LET := fun z => by
  have : ∀ c ∈ DIG, c ∉ LET := by decide
  exact this c h z
theorem take_all {a b : List Nat} : (a ++ b).take a.length = a := List.take_left' rfl
theorem lex_spell {t : Tok} {b : List Nat} (g : good t) (ap : apart t b) : ∃ c r, spell t ++ b = c :: r ∧ c ≠ 32 ∧ lexC c r = some (t, (spell t).length) := by
  cases t with
  | word l =>
    obtain ⟨h1, h2, h3⟩ := g
    cases l with
    | nil => exact absurd rfl h1
    | cons c r =>
      have hc : c ∈ LET := h3 c List.mem_cons_self
      refine ⟨c, r ++ b, rfl, fun z => absurd hc (by rw [z]; decide), ?_⟩
      unfold lexC
      have e : run LET (c :: (r ++ b)) = (c :: r).length := run_all (a := c :: r) h3 ap
      rw [if_pos hc, e, if_pos h2]
      show some (Tok.word (((c :: r) ++ b).take (c :: r).length), _) = _
      rw [take_all]
      rfl
  | num n =>
    obtain ⟨h1, h2, h3, h4⟩ := numT_dig (show n ≤ 99999 from g)
    show ∃ c r, numT n ++ b = c :: r ∧ c ≠ 32 ∧ lexC c r = some (Tok.num n, (numT n).length)
    obtain ⟨l, hl⟩ : ∃ l, l = numT n := ⟨_, rfl⟩
    rw [← hl] at h1 h2 h3 h4 ⊢
    cases l with
    | nil => exact absurd rfl h1
    | cons c r =>
      have hc : c ∈ DIG := h3 c List.mem_cons_self
      refine ⟨c, r ++ b, rfl, fun z => absurd hc (by rw [z]; decide), ?_⟩
      unfold lexC
      have e : run DIG (c :: (r ++ b)) = (c :: r).length := run_all (a := c :: r) h3 ap
      have e2 : (c :: (r ++ b)).take (c :: r).length = c :: r := take_all (a := c :: r) (b := b)
      rw [if_neg (let_dig hc), if_pos hc, e, e2, h4, if_pos ⟨h2, hl⟩]
  | str l =>
    obtain ⟨h1, h2⟩ := g
    refine ⟨34, l ++ [34] ++ b, rfl, by decide, ?_⟩
    unfold lexC
    have n34 : ∀ c ∈ l, (c != 34) = true := fun c hc => by
      have := h2 c hc
      unfold mayB at this
      have := of_decide_eq_true this
      simp [this.2.2.2.1]
    have e : toQ (l ++ [34] ++ b) = l.length := by
      unfold toQ
      rw [List.append_assoc, List.takeWhile_append_of_pos n34, List.length_append]
      show l.length + (List.takeWhile _ (34 :: b)).length = _
      rw [List.takeWhile_cons, if_neg (by decide)]
      rfl
    have e2 : (l ++ [34] ++ b).take l.length = l := by rw [List.append_assoc]; exact take_all
    rw [if_neg (by decide), if_neg (by decide), if_pos rfl, e, e2, if_pos ⟨by simp, h1, List.all_eq_true.mpr h2⟩]
    show some (Tok.str l, l.length + 2) = some (Tok.str l, ([34] ++ l ++ [34]).length)
    simp
  | sign c =>
    have hs : c ∈ SGN := g
    have hd : ∀ c ∈ SGN, c ∉ LET ∧ c ∉ DIG ∧ c ≠ 34 ∧ c ≠ 32 := by decide
    obtain ⟨h1, h2, h3, h4⟩ := hd c hs
    refine ⟨c, b, rfl, h4, ?_⟩
    unfold lexC
    rw [if_neg h1, if_neg h2, if_neg h3, if_pos hs]
    rfl

/-- tokens with gaps of blanks behind them -/
def joined : List (Tok × Nat) → List Nat
  | [] => []
  | (t, g) :: r => spell t ++ List.replicate g 32 ++ joined r
/-- where a gap must stand -/
def gapped : List (Tok × Nat) → Prop
  | (t, g) :: (u, h) :: r => (g = 0 → apart t (spell u ++ (List.replicate h 32 ++ joined r))) ∧ gapped ((u, h) :: r)
  | _ => True
theorem lex_blanks {l : List Nat} {o : Option (List Tok)} (h : Lex l o) : ∀ g, Lex (List.replicate g 32 ++ l) o
  | 0 => h
  | g + 1 => by
    rw [List.replicate_succ]
    exact .sp (lex_blanks h g)
/-- a joined text is split into its tokens, and what stands behind is split as it is -/
theorem lex_joined {tail : List Nat} {o : Option (List Tok)} (ht : Lex tail o) (hs : ∀ c r, tail = c :: r → c = 32) :
    ∀ (l : List (Tok × Nat)), (∀ p ∈ l, good p.1) → gapped l → Lex (joined l ++ tail) (o.map (l.map (·.1) ++ ·))
  | [], _, _ => by
    have e : (o.map (([] : List (Tok × Nat)).map (·.1) ++ ·)) = o := by cases o <;> rfl
    rw [e]
    exact ht
  | (t, g) :: r, hg, hp => by
    have hr : Lex (joined r ++ tail) (o.map (r.map (·.1) ++ ·)) := lex_joined ht hs r (fun p h => hg p (List.mem_cons_of_mem _ h)) (by cases r with | nil => trivial | cons a b => exact hp.2)
    have ap : apart t (List.replicate g 32 ++ (joined r ++ tail)) := by
      have sp : ∀ l : List Nat, apart t (32 :: l) := fun l => by
        cases t with
        | word _ => exact fun c r e => by cases e; decide
        | num _ => exact fun c r e => by cases e; decide
        | str _ => trivial
        | sign _ => trivial
      cases g with
      | succ g => exact sp _
      | zero =>
        cases r with
        | nil =>
          cases tail with
          | nil => cases t <;> first | trivial | exact fun c r e => by cases e
          | cons c q => rw [hs c q rfl]; exact sp _
        | cons a b =>
          obtain ⟨u, h⟩ := a
          have q := hp.1 rfl
          show apart t (spell u ++ List.replicate h 32 ++ joined b ++ tail)
          have ne : spell u ≠ [] := by
            have gu := hg (u, h) (by simp)
            cases u with
            | word l => exact gu.1
            | num n => exact (numT_dig gu).1
            | str l => exact fun z => by cases z
            | sign c => exact fun z => by cases z
          cases e : spell u with
          | nil => exact absurd e ne
          | cons c v =>
            rw [e] at q
            cases t with
            | word _ => exact fun c' r' e' => by cases e'; exact q c _ rfl
            | num _ => exact fun c' r' e' => by cases e'; exact q c _ rfl
            | str _ => trivial
            | sign _ => trivial
    obtain ⟨c, v, e1, e2, e3⟩ := lex_spell (hg (t, g) List.mem_cons_self) ap
    have e0 : joined ((t, g) :: r) ++ tail = spell t ++ (List.replicate g 32 ++ (joined r ++ tail)) := by
      show spell t ++ List.replicate g 32 ++ joined r ++ tail = _
      simp only [List.append_assoc]
    rw [e0, e1]
    have e4 : (c :: v).drop (spell t).length = List.replicate g 32 ++ (joined r ++ tail) := by
      rw [← e1]
      exact List.drop_left' rfl
    have := Lex.tok e2 e3 (by rw [e4]; exact lex_blanks hr g)
    cases o with
    | none => exact this
    | some ts => exact this
end K1

set_option maxRecDepth 100000
set_option maxHeartbeats 4000000
/-! the mathematics of law k02: a mirror of the parser over lists of tokens, no Python -/
namespace K2
open PySem hiding Tok
open K1

inductive Tr where
  | num (n : Nat) | str (l : List Nat) | name (l : List Nat) | call (f : List Nat) (as : List Tr) | ite (a b c : Tr)
  | set (x : List Nat) (t : Tr) | seq (a b : Tr) | op (c : Nat) (a b : Tr)
mutual
def hgt : Tr → Nat
  | .num _ => 1
  | .str _ => 1
  | .name _ => 1
  | .call _ as => 1 + hgtL as
  | .ite a b c => 1 + max (hgt a) (max (hgt b) (hgt c))
  | .set _ t => 1 + hgt t
  | .seq a b => 1 + max (hgt a) (hgt b)
  | .op _ a b => 1 + max (hgt a) (hgt b)
def hgtL : List Tr → Nat
  | [] => 0
  | t :: ts => max (hgt t) (hgtL ts)
end
def bd (t : Tr) : Option Tr := if hgt t ≤ 12 then some t else none
def code (s : Str) : List Nat := s.cps.toList
def wIf : List Nat := code "if"
def wThen : List Nat := code "then"
def wElse : List Nat := code "else"
def wSet : List Nat := code "set"
def kwL : List (List Nat) := (["import", "export", "let", "keep", "fn", "do", "hold", "if", "then", "else", "set", "from", "as"] : List Str).map code
def nmB (l : List Nat) : Bool := decide (1 ≤ l.length ∧ l.length ≤ 6) && !(kwL.contains l) && l.all fun c => decide (c ∈ LET)

abbrev PR := List Tok → Option (Tr × List Tok)
def many (w : PR) (sep : Nat) : Nat → List Tok → Option (List Tr × List Tok)
  | 0, _ => none
  | m + 1, ts => match w ts with
    | none => none
    | some (t, .sign c :: r) => if c = sep then (match many w sep m r with
      | none => none
      | some (l, r2) => some (t :: l, r2)) else some ([t], .sign c :: r)
    | some (t, r) => some ([t], r)
def opLoop (x : PR) (cs : List Nat) : Nat → Tr → List Tok → Option (Tr × List Tok)
  | 0, _, _ => none
  | m + 1, t, .sign c :: r => if c ∈ cs then (match x r with
    | none => none
    | some (u, r2) => if hgt (.op c t u) ≤ 12 then opLoop x cs m (.op c t u) r2 else none) else some (t, .sign c :: r)
  | _ + 1, t, r => some (t, r)
def parens (w : PR) (sep : Nat) (ts : List Tok) : Option (List Tr × List Tok) := match many w sep (ts.length + 1) ts with
  | some (l, .sign 41 :: r) => some (l, r)
  | _ => none
def foldSeq : List Tr → Option Tr
  | [] => none
  | [t] => some t
  | t :: l => match foldSeq l with
    | none => none
    | some u => bd (.seq t u)
def atomP (ok : Bool) (w : PR) : PR
  | .sign 40 :: r => if ok then (match parens w 59 r with
    | none => none
    | some (l, r2) => (foldSeq l).map fun t => (t, r2)) else none
  | .num n :: r => some (.num n, r)
  | .str l :: r => some (.str l, r)
  | .word l :: .sign 40 :: .sign 41 :: r => if nmB l && ok then some (.call l [], r) else none
  | .word l :: .sign 40 :: r => if nmB l && ok then (match parens w 44 r with
    | none => none
    | some (as, r2) => (bd (.call l as)).map fun t => (t, r2)) else none
  | .word l :: r => if nmB l then some (.name l, r) else none
  | _ => none
def mulP (a : PR) : PR := fun ts => match a ts with
  | none => none
  | some (t, r) => opLoop a [42] (r.length + 1) t r
def addP (a : PR) : PR := fun ts => match mulP a ts with
  | none => none
  | some (t, r) => opLoop (mulP a) [43, 45] (r.length + 1) t r
def cmpP (a : PR) : PR := fun ts => match addP a ts with
  | none => none
  | some (t, .sign c :: r) => if c = 61 ∨ c = 60 then (match addP a r with
    | none => none
    | some (u, r2) => (bd (.op c t u)).map fun t => (t, r2)) else some (t, .sign c :: r)
  | some (t, r) => some (t, r)
def afterW (x : List Nat) (f : PR) : PR
  | .word y :: r => if y = x then f r else none
  | _ => none
def iteP (wb : PR) : PR := fun ts => match wb ts with
  | none => none
  | some (a, r) => afterW wThen (fun r => match wb r with
    | none => none
    | some (b, r) => afterW wElse (fun r => match wb r with
      | none => none
      | some (c, r) => (bd (.ite a b c)).map fun t => (t, r)) r) r
def setP (wb : PR) : PR
  | .word x :: .sign 61 :: r => if nmB x then (match wb r with
    | none => none
    | some (t, r) => (bd (.set x t)).map fun t => (t, r)) else none
  | _ => none
def wholeP (wb : PR) (a : PR) : PR
  | .word w :: r => if w = wIf then iteP wb r else if w = wSet then setP wb r else cmpP a (.word w :: r)
  | ts => cmpP a ts
def fail : PR := fun _ => none
def P : Nat → Nat → Nat → PR
  | 0, _, _ => fail
  | n + 1, d, b => wholeP (if b + 1 < 12 then P n d (b + 1) else fail) (atomP (decide (d + 1 ≤ 10)) (P n (d + 1) b))
def parseM (ts : List Tok) : Option Tr := match P 30 0 0 ts with
  | some (t, []) => some t
  | _ => none

/-! ### what is accepted: ends where an expression may end, parentheses in balance, no two atoms side by side -/
def isStart : Tok → Bool
  | .num _ => true
  | .str _ => true
  | .word l => nmB l
  | .sign _ => false
def isEnd : Tok → Bool
  | .sign c => c == 41
  | t => isStart t
def bal1 : Tok → Int
  | .sign 40 => 1
  | .sign 41 => -1
  | _ => 0
def bal (l : List Tok) : Int := (l.map bal1).sum
def adj : List Tok → Bool
  | x :: y :: r => !(isEnd x && isStart y) && adj (y :: r)
  | _ => true
def fin (l : List Tok) : Bool := match l.getLast? with
  | some x => isEnd x
  | none => false
structure Gd (w : List Tok) : Prop where
  ne : fin w = true
  b : bal w = 0
  a : adj w = true
theorem bal_app (a b : List Tok) : bal (a ++ b) = bal a + bal b := by unfold bal; rw [List.map_append, List.sum_append]
theorem bal_cons (x : Tok) (b : List Tok) : bal (x :: b) = bal1 x + bal b := by unfold bal; rw [List.map_cons, List.sum_cons]
theorem adj_app : ∀ {a b : List Tok}, adj a = true → adj b = true → (∀ x y r, a.getLast? = some x → b = y :: r → (isEnd x && isStart y) = false) → adj (a ++ b) = true
  | [], b, _, hb, _ => hb
  | [x], b, _, hb, h => by
    cases b with
    | nil => rfl
    | cons y r =>
      show (!(isEnd x && isStart y) && adj (y :: r)) = true
      rw [h x y r rfl rfl, hb]
      rfl
  | x :: y :: a, b, ha, hb, h => by
    have ha : (!(isEnd x && isStart y) && adj (y :: a)) = true := ha
    rw [Bool.and_eq_true] at ha
    show (!(isEnd x && isStart y) && adj (y :: a ++ b)) = true
    rw [ha.1, adj_app ha.2 hb (fun u v r h1 h2 => h u v r (by rw [List.getLast?_cons_cons]; exact h1) h2)]
    rfl
theorem fin_app {a b : List Tok} (h : fin b = true) : fin (a ++ b) = true := by
  unfold fin at h ⊢
  rw [List.getLast?_append]
  cases e : b.getLast? with
  | none => rw [e] at h; cases h
  | some x => rw [e] at h; exact h
/-- two that are accepted, with what starts nothing and ends nothing between them -/
theorem Gd.mid {a m b : List Tok} (ga : Gd a) (gb : Gd b) (hm : m ≠ []) (h1 : ∀ x ∈ m, isStart x = false) (h2 : ∀ x ∈ m, isEnd x = false) (h3 : ∀ x ∈ m, bal1 x = 0) : Gd (a ++ (m ++ b)) := by
  have am : ∀ m : List Tok, (∀ x ∈ m, isStart x = false) → adj m = true := fun m => by
    induction m with
    | nil => exact fun _ => rfl
    | cons x m ih =>
      intro h
      cases m with
      | nil => rfl
      | cons y r =>
        show (!(isEnd x && isStart y) && adj (y :: r)) = true
        rw [h y (by simp), ih (fun z hz => h z (List.mem_cons_of_mem _ hz)), Bool.and_false]
        rfl
  have bm : bal m = 0 := by
    unfold bal
    have : ∀ m : List Tok, (∀ x ∈ m, bal1 x = 0) → (m.map bal1).sum = 0 := fun m => by
      induction m with
      | nil => exact fun _ => rfl
      | cons x m ih => intro h; rw [List.map_cons, List.sum_cons, h x List.mem_cons_self, ih (fun z hz => h z (List.mem_cons_of_mem _ hz))]; rfl
    exact this m h3
  refine ⟨fin_app (fin_app gb.ne), ?_, ?_⟩
  · rw [bal_app, bal_app, ga.b, gb.b, bm]
    rfl
  · refine adj_app ga.a (adj_app (am m h1) gb.a fun x y r e1 _ => ?_) fun x y r _ e2 => ?_
    · rw [h2 x (List.mem_of_getLast? e1)]
      rfl
    · cases m with
      | nil => exact absurd rfl hm
      | cons z' m =>
        cases e2
        rw [h1 _ List.mem_cons_self, Bool.and_false]
theorem Gd.pre {m b : List Tok} (gb : Gd b) (h0 : adj m = true) (h2 : ∀ x, m.getLast? = some x → isEnd x = false) (h3 : bal m = 0) : Gd (m ++ b) := by
  refine ⟨fin_app gb.ne, ?_, adj_app h0 gb.a fun x y r e1 _ => ?_⟩
  · rw [bal_app, gb.b, h3]
    rfl
  · rw [h2 x e1]
    rfl
/-- in parentheses -/
theorem Gd.par {a b : List Tok} (gb : Gd b) (h0 : adj a = true) (h3 : bal a = 0) : Gd (a ++ (.sign 40 :: (b ++ [.sign 41]))) := by
  refine ⟨fin_app (by show fin ([Tok.sign 40] ++ (b ++ [.sign 41])) = true; exact fin_app (fin_app rfl)), ?_, ?_⟩
  · rw [bal_app, bal_cons, bal_app, gb.b, h3]
    rfl
  · refine adj_app h0 ?_ fun x y r _ e => ?_
    · show adj ([Tok.sign 40] ++ (b ++ [.sign 41])) = true
      refine adj_app rfl (adj_app gb.a rfl fun x y r _ e => ?_) fun x y r e _ => ?_
      · cases e
        exact Bool.and_false _
      · cases e
        rfl
    · cases e
      exact Bool.and_false _
def Sd (p : PR) : Prop := ∀ ts t r, p ts = some (t, r) → ∃ w, ts = w ++ r ∧ Gd w
theorem sd_fail : Sd fail := fun _ _ _ h => by cases h
theorem gd_one {x : Tok} (h : isEnd x = true) (hb : bal1 x = 0) : Gd [x] := ⟨h, by rw [bal_cons, hb]; rfl, rfl⟩
end K2

set_option maxRecDepth 100000
set_option maxHeartbeats 4000000
/-! what the mirror of the parser accepts ends well, is in balance, has no two atoms side by side -/
namespace K2
open PySem hiding Tok
open K1

theorem sg {c : Nat} (h : c ≠ 40 ∧ c ≠ 41) : isStart (.sign c) = false ∧ isEnd (.sign c) = false ∧ bal1 (.sign c) = 0 := by
  refine ⟨rfl, ?_, ?_⟩
  · show (c == 41) = false
    simpa using h.2
  · unfold bal1
    split
    · rename_i e; cases e; exact absurd rfl h.1
    · rename_i e; cases e; exact absurd rfl h.2
    · rfl
theorem kwS {x : List Nat} (h : kwL.contains x = true) : isStart (.word x) = false := by
  show nmB x = false
  unfold nmB
  rw [h]
  simp
theorem Gd.mid1 {a b : List Tok} {x : Tok} (ga : Gd a) (gb : Gd b) (h : isStart x = false ∧ isEnd x = false ∧ bal1 x = 0) : Gd (a ++ (x :: b)) :=
  Gd.mid (m := [x]) ga gb (by simp) (fun y hy => by rw [List.mem_singleton.mp hy]; exact h.1) (fun y hy => by rw [List.mem_singleton.mp hy]; exact h.2.1)
    (fun y hy => by rw [List.mem_singleton.mp hy]; exact h.2.2)
theorem sd_many {w : PR} {sep : Nat} (hw : Sd w) (hs : sep ≠ 40 ∧ sep ≠ 41) : ∀ (m : Nat) (ts : List Tok) (l : List Tr) (r : List Tok), many w sep m ts = some (l, r) → ∃ v, ts = v ++ r ∧ Gd v
  | 0, _, _, _, h => by cases h
  | m + 1, ts, l, r, h => by
    rw [many] at h
    split at h
    · cases h
    · rename_i t c r' e
      obtain ⟨v, hv, gv⟩ := hw _ _ _ e
      split at h
      · rename_i hc
        split at h
        · cases h
        · rename_i l2 r2 e2
          cases h
          obtain ⟨v2, hv2, g2⟩ := sd_many hw hs m _ _ _ e2
          refine ⟨v ++ (.sign c :: v2), by rw [hv, hv2]; simp, Gd.mid1 gv g2 (sg (by rw [hc]; exact hs))⟩
      · cases h
        exact ⟨v, hv, gv⟩
    · rename_i t r' _ e
      cases h
      exact hw _ _ _ e
theorem sd_loop {x : PR} {cs : List Nat} (hx : Sd x) (hc : ∀ c ∈ cs, c ≠ 40 ∧ c ≠ 41) : ∀ (m : Nat) (t : Tr) (r : List Tok) (u : Tr) (r2 : List Tok), opLoop x cs m t r = some (u, r2) →
    ∃ v, r = v ++ r2 ∧ ∀ g, Gd g → Gd (g ++ v)
  | 0, t, r, _, _, h => by
    unfold opLoop at h
    cases h
  | m + 1, t, r, u, r2, h => by
    cases r with
    | nil => cases h; exact ⟨[], rfl, fun g hg => by rw [List.append_nil]; exact hg⟩
    | cons y r =>
      cases y with
      | sign c =>
        rw [opLoop] at h
        split at h
        · rename_i hcc
          split at h
          · cases h
          · rename_i u' r' e
            split at h
            · obtain ⟨v, hv, gv⟩ := hx _ _ _ e
              obtain ⟨v2, hv2, g2⟩ := sd_loop hx hc m _ _ _ _ h
              refine ⟨.sign c :: (v ++ v2), by rw [hv, hv2]; simp, fun g hg => ?_⟩
              have := g2 _ (Gd.mid1 hg gv (sg (hc c hcc)))
              simpa using this
            · cases h
        · cases h; exact ⟨[], rfl, fun g hg => by rw [List.append_nil]; exact hg⟩
      | word _ => cases h; exact ⟨[], rfl, fun g hg => by rw [List.append_nil]; exact hg⟩
      | num _ => cases h; exact ⟨[], rfl, fun g hg => by rw [List.append_nil]; exact hg⟩
      | str _ => cases h; exact ⟨[], rfl, fun g hg => by rw [List.append_nil]; exact hg⟩
theorem sd_mul {a : PR} (ha : Sd a) : Sd (mulP a) := fun ts t r h => by
  unfold mulP at h
  split at h
  · cases h
  · rename_i u r' e
    obtain ⟨v, hv, gv⟩ := ha _ _ _ e
    obtain ⟨v2, hv2, g2⟩ := sd_loop ha (by decide) _ _ _ _ _ h
    exact ⟨v ++ v2, by rw [hv, hv2]; simp, g2 _ gv⟩
theorem sd_add {a : PR} (ha : Sd a) : Sd (addP a) := fun ts t r h => by
  unfold addP at h
  split at h
  · cases h
  · rename_i u r' e
    obtain ⟨v, hv, gv⟩ := sd_mul ha _ _ _ e
    obtain ⟨v2, hv2, g2⟩ := sd_loop (sd_mul ha) (by decide) _ _ _ _ _ h
    exact ⟨v ++ v2, by rw [hv, hv2]; simp, g2 _ gv⟩
theorem sd_cmp {a : PR} (ha : Sd a) : Sd (cmpP a) := fun ts t r h => by
  unfold cmpP at h
  split at h
  · cases h
  · rename_i u c r' e
    obtain ⟨v, hv, gv⟩ := sd_add ha _ _ _ e
    split at h
    · rename_i hc
      split at h
      · cases h
      · rename_i u2 r2 e2
        obtain ⟨v2, hv2, g2⟩ := sd_add ha _ _ _ e2
        obtain ⟨t', _, ht⟩ := Option.map_eq_some_iff.mp h
        cases ht
        exact ⟨v ++ (.sign c :: v2), by rw [hv, hv2]; simp, Gd.mid1 gv g2 (sg (by rcases hc with h | h <;> rw [h] <;> decide))⟩
    · cases h
      exact ⟨v, hv, gv⟩
  · rename_i u r' _ e
    cases h
    exact sd_add ha _ _ _ e
theorem afterW_some {x : List Nat} {f : PR} {ts : List Tok} {o : Tr × List Tok} (h : afterW x f ts = some o) : ∃ r, ts = .word x :: r ∧ f r = some o := by
  unfold afterW at h
  split at h
  · split at h
    · rename_i e
      exact ⟨_, by rw [e], h⟩
    · cases h
  · cases h
theorem sd_ite {wb : PR} (hw : Sd wb) : Sd (iteP wb) := fun ts t r h => by
  unfold iteP at h
  split at h
  · cases h
  · rename_i a r1 e1
    obtain ⟨v1, hv1, g1⟩ := hw _ _ _ e1
    obtain ⟨r1', q1, h⟩ := afterW_some h
    split at h
    · cases h
    · rename_i b r2 e2
      obtain ⟨v2, hv2, g2⟩ := hw _ _ _ e2
      obtain ⟨r2', q2, h⟩ := afterW_some h
      split at h
      · cases h
      · rename_i c r3 e3
        obtain ⟨v3, hv3, g3⟩ := hw _ _ _ e3
        obtain ⟨t', _, ht⟩ := Option.map_eq_some_iff.mp h
        cases ht
        refine ⟨v1 ++ (.word wThen :: (v2 ++ (.word wElse :: v3))), by rw [hv1, q1, hv2, q2, hv3]; simp, Gd.mid1 g1 (Gd.mid1 g2 g3 ?_) ?_⟩
        · exact ⟨kwS (by decide +kernel), kwS (by decide +kernel), rfl⟩
        · exact ⟨kwS (by decide +kernel), kwS (by decide +kernel), rfl⟩
theorem sd_set {wb : PR} (hw : Sd wb) {ts : List Tok} {t : Tr} {r : List Tok} (h : setP wb ts = some (t, r)) : ∃ w, .word wSet :: ts = w ++ r ∧ Gd w := by
  unfold setP at h
  split at h
  · rename_i x r0
    split at h
    · split at h
      · cases h
      · rename_i u r1 e
        obtain ⟨v, hv, g⟩ := hw _ _ _ e
        obtain ⟨t', _, ht⟩ := Option.map_eq_some_iff.mp h
        cases ht
        refine ⟨[.word wSet, .word x, .sign 61] ++ v, by rw [hv]; rfl, Gd.pre g ?_ (fun y hy => by cases hy; rfl) rfl⟩
        have e1 : isEnd (.word wSet) = false := kwS (by decide +kernel)
        show (!(isEnd (.word wSet) && isStart (.word x)) && (!(isEnd (.word x) && false) && true)) = true
        rw [e1, Bool.and_false]
        rfl
    · cases h
  · cases h
theorem sd_atom {ok : Bool} {w : PR} (hw : Sd w) : Sd (atomP ok w) := fun ts t r h => by
  have par : ∀ {ts : List Tok} {sep : Nat} {l : List Tr} {r : List Tok}, sep ≠ 40 ∧ sep ≠ 41 → parens w sep ts = some (l, r) → ∃ v, ts = v ++ (.sign 41 :: r) ∧ Gd v := fun hs h => by
    unfold parens at h
    split at h
    · rename_i l' r' e
      cases h
      exact sd_many hw hs _ _ _ _ e
    · cases h
  unfold atomP at h
  split at h
  · split at h
    · split at h
      · cases h
      · rename_i l r2 e
        obtain ⟨v, hv, g⟩ := par (by decide) e
        obtain ⟨t', _, ht⟩ := Option.map_eq_some_iff.mp h
        cases ht
        exact ⟨[] ++ (.sign 40 :: (v ++ [.sign 41])), by rw [hv]; simp, Gd.par g rfl rfl⟩
    · cases h
  · cases h
    exact ⟨[_], rfl, gd_one rfl rfl⟩
  · cases h
    exact ⟨[_], rfl, gd_one rfl rfl⟩
  · rename_i l r'
    split at h
    · cases h
      refine ⟨[.word l, .sign 40, .sign 41], rfl, rfl, rfl, ?_⟩
      show (!(isEnd (.word l) && false) && (!(false && false) && true)) = true
      rw [Bool.and_false]
      rfl
    · cases h
  · rename_i l r' _
    split at h
    · split at h
      · cases h
      · rename_i as r2 e
        obtain ⟨v, hv, g⟩ := par (by decide) e
        obtain ⟨t', _, ht⟩ := Option.map_eq_some_iff.mp h
        cases ht
        exact ⟨[.word l] ++ (.sign 40 :: (v ++ [.sign 41])), by rw [hv]; simp, Gd.par g rfl rfl⟩
    · cases h
  · rename_i l r' _ _
    split at h
    · rename_i hn
      cases h
      exact ⟨[.word l], rfl, gd_one hn rfl⟩
    · cases h
  · cases h
theorem sd_whole {wb a : PR} (hw : Sd wb) (ha : Sd a) : Sd (wholeP wb a) := fun ts t r h => by
  unfold wholeP at h
  split at h
  · rename_i w r'
    split at h
    · rename_i e
      subst e
      obtain ⟨v, hv, g⟩ := sd_ite hw _ _ _ h
      refine ⟨[.word wIf] ++ v, by rw [hv]; rfl, Gd.pre g rfl (fun x hx => by cases hx; exact kwS (by decide +kernel)) rfl⟩
    · split at h
      · rename_i e
        subst e
        exact sd_set hw h
      · exact sd_cmp ha _ _ _ h
  · exact sd_cmp ha _ _ _ h
theorem sd_P : ∀ (n d b : Nat), Sd (P n d b)
  | 0, _, _ => sd_fail
  | n + 1, d, b => by
    rw [P]
    refine sd_whole ?_ (sd_atom (sd_P n (d + 1) b))
    split
    · exact sd_P n d (b + 1)
    · exact sd_fail
/-- what the mirror of parse accepts -/
theorem parseM_gd {ts : List Tok} (h : parseM ts ≠ none) : Gd ts := by
  unfold parseM at h
  split at h
  · rename_i t e
    obtain ⟨v, hv, g⟩ := sd_P _ _ _ _ _ _ e
    rw [List.append_nil] at hv
    rw [hv]
    exact g
  · exact absurd rfl h
/-- a token less -/
theorem gd_less {ts : List Tok} (g : Gd ts) : parseM ts.dropLast = none := by
  cases e : parseM ts.dropLast with
  | none => rfl
  | some u =>
    exfalso
    have g2 := parseM_gd (ts := ts.dropLast) (by rw [e]; intro z; cases z)
    have hn : ts ≠ [] := fun z => by have := g.ne; rw [z] at this; cases this
    have e1 := List.dropLast_concat_getLast hn
    have b1 : bal ts = bal ts.dropLast + bal [ts.getLast hn] := by rw [← bal_app, e1]
    have b2 : bal [ts.getLast hn] = bal1 (ts.getLast hn) := by unfold bal; simp
    have f1 : isEnd (ts.getLast hn) = true := by
      have := g.ne
      unfold fin at this
      rw [List.getLast?_eq_some_getLast hn] at this
      exact this
    have z : bal1 (ts.getLast hn) = 0 := by have := g.b; have := g2.b; omega
    have st : isStart (ts.getLast hn) = true := by
      cases hx : ts.getLast hn with
      | sign c =>
        rw [hx] at f1 z
        have : c = 41 := by simpa [isEnd] using f1
        subst this
        exact absurd z (by decide)
      | word l => rw [hx] at f1; exact f1
      | num n => rfl
      | str l => rfl
    -- the one ahead of it ends an expression too
    have f2 := g2.ne
    unfold fin at f2
    cases hl : ts.dropLast.getLast? with
    | none => rw [hl] at f2; cases f2
    | some x =>
      rw [hl] at f2
      have a1 := g.a
      obtain ⟨q, hq⟩ : ∃ q, ts.dropLast = q ++ [x] := ⟨ts.dropLast.dropLast, by
        have hn2 : ts.dropLast ≠ [] := fun z => by rw [z] at hl; cases hl
        have h1 := List.dropLast_concat_getLast hn2
        rw [List.getLast?_eq_some_getLast hn2] at hl
        cases hl
        exact h1.symm⟩
      rw [← e1, hq, List.append_assoc] at a1
      have : ∀ (q : List Tok) (x y : Tok), adj (q ++ ([x] ++ [y])) = true → (isEnd x && isStart y) = false := fun q => by
        induction q with
        | nil => intro x y h; have h : (!(isEnd x && isStart y) && true) = true := h; rw [Bool.and_true] at h; exact Bool.not_eq_true' _ |>.mp h
        | cons z q ih =>
          intro x y h
          refine ih x y ?_
          cases q with
          | nil => have h : (!(isEnd z && isStart x) && adj [x, y]) = true := h; rw [Bool.and_eq_true] at h; exact h.2
          | cons w q => have h : (!(isEnd z && isStart w) && adj (w :: (q ++ ([x] ++ [y])))) = true := h; rw [Bool.and_eq_true] at h; exact h.2
      have := this _ _ _ a1
      have f2 : isEnd x = true := f2
      rw [f2, st] at this
      cases this
/-- a token more -/
def moreM : List Tok := [.num 1, .sign 41, .sign 43, .sign 40, .word wThen, .sign 59]
theorem gd_more {ts : List Tok} (g : Gd ts) {x : Tok} (hx : x ∈ moreM) : parseM (ts ++ [x]) = none := by
  cases e : parseM (ts ++ [x]) with
  | none => rfl
  | some u =>
    exfalso
    have g2 := parseM_gd (ts := ts ++ [x]) (by rw [e]; intro z; cases z)
    have hb : bal1 x = 0 := by have := g2.b; rw [bal_app, g.b, bal_cons] at this; have e : bal ([] : List Tok) = 0 := rfl; omega
    have hf : isEnd x = true := by have := g2.ne; unfold fin at this; rw [List.getLast?_append] at this; exact this
    have hs : isStart x = true := by
      have : ∀ x ∈ moreM, bal1 x = 0 → isEnd x = true → isStart x = true := by
        intro x hx
        unfold moreM at hx
        simp only [List.mem_cons, List.not_mem_nil, or_false] at hx
        rcases hx with rfl | rfl | rfl | rfl | rfl | rfl
        · exact fun _ _ => rfl
        · exact fun h => absurd h (by decide)
        · exact fun _ h => by cases h
        · exact fun h => absurd h (by decide)
        · exact fun _ h => by rw [show isEnd (.word wThen) = false from kwS (by decide +kernel)] at h; cases h
        · exact fun _ h => by cases h
      exact this x hx hb hf
    have f := g.ne
    unfold fin at f
    cases hl : ts.getLast? with
    | none => rw [hl] at f; cases f
    | some y =>
      rw [hl] at f
      have hn : ts ≠ [] := fun z => by rw [z] at hl; cases hl
      have h1 := List.dropLast_concat_getLast hn
      rw [List.getLast?_eq_some_getLast hn] at hl
      cases hl
      have a1 := g2.a
      rw [← h1, List.append_assoc] at a1
      have : ∀ (q : List Tok) (x y : Tok), adj (q ++ ([x] ++ [y])) = true → (isEnd x && isStart y) = false := fun q => by
        induction q with
        | nil => intro x y h; have h : (!(isEnd x && isStart y) && true) = true := h; rw [Bool.and_true] at h; exact Bool.not_eq_true' _ |>.mp h
        | cons z q ih =>
          intro x y h
          refine ih x y ?_
          cases q with
          | nil => have h : (!(isEnd z && isStart x) && adj [x, y]) = true := h; rw [Bool.and_eq_true] at h; exact h.2
          | cons w q => have h : (!(isEnd z && isStart w) && adj (w :: (q ++ ([x] ++ [y])))) = true := h; rw [Bool.and_eq_true] at h; exact h.2
      have := this _ _ _ a1
      have f : isEnd (ts.getLast hn) = true := f
      rw [f, hs] at this
      cases this
theorem parse_star (ts : List Tok) : parseM (.sign 42 :: ts) = none := rfl
end K2

set_option maxRecDepth 100000
set_option maxHeartbeats 4000000
/-! what spells a tree is parsed to it -/
namespace K2
open PySem hiding Tok
open K1

def sepBy (c : Nat) : List (List Tok) → List Tok
  | [] => []
  | [a] => a
  | a :: b :: l => a ++ (.sign c :: sepBy c (b :: l))
/-- tokens that spell a tree where level k must stand; p parentheses and b branches deep at most -/
inductive Sp : Nat → Tr → List Tok → Nat → Nat → Prop
  | num {n p b} : Sp 4 (.num n) [.num n] p b
  | str {l p b} : Sp 4 (.str l) [.str l] p b
  | name {l p b} : nmB l = true → Sp 4 (.name l) [.word l] p b
  | call {f p b} {l : List (Tr × List Tok)} : nmB f = true → (∀ x ∈ l, Sp 0 x.1 x.2 p b) → (∀ x ∈ l, hgt x.1 ≤ 11) →
      Sp 4 (.call f (l.map (·.1))) (.word f :: .sign 40 :: (sepBy 44 (l.map (·.2)) ++ [.sign 41])) (p + 1) b
  | par {t p b} {l : List (Tr × List Tok)} : foldSeq (l.map (·.1)) = some t → (∀ x ∈ l, Sp 0 x.1 x.2 p b) → Sp 4 t (.sign 40 :: (sepBy 59 (l.map (·.2)) ++ [.sign 41])) (p + 1) b
  | mul {t u tt uu p b} : Sp 3 t tt p b → Sp 4 u uu p b → hgt t ≤ 11 → hgt u ≤ 11 → Sp 3 (.op 42 t u) (tt ++ (.sign 42 :: uu)) p b
  | add {c t u tt uu p b} : (c = 43 ∨ c = 45) → Sp 2 t tt p b → Sp 3 u uu p b → hgt t ≤ 11 → hgt u ≤ 11 → Sp 2 (.op c t u) (tt ++ (.sign c :: uu)) p b
  | cmp {c t u tt uu p b} : (c = 61 ∨ c = 60) → Sp 2 t tt p b → Sp 2 u uu p b → hgt t ≤ 11 → hgt u ≤ 11 → Sp 1 (.op c t u) (tt ++ (.sign c :: uu)) p b
  | ite {x y z xx yy zz p b} : Sp 0 x xx p b → Sp 0 y yy p b → Sp 0 z zz p b → hgt x ≤ 11 → hgt y ≤ 11 → hgt z ≤ 11 →
      Sp 0 (.ite x y z) (.word wIf :: (xx ++ (.word wThen :: (yy ++ (.word wElse :: zz))))) p (b + 1)
  | set {x t tt p b} : nmB x = true → Sp 0 t tt p b → hgt t ≤ 11 → Sp 0 (.set x t) (.word wSet :: .word x :: .sign 61 :: tt) p (b + 1)
  | up {k t tt p b} : Sp (k + 1) t tt p b → Sp k t tt p b
  | more {k t tt p b p' b'} : Sp k t tt p b → p ≤ p' → b ≤ b' → Sp k t tt p' b'
theorem Sp.le4 {k t tt p b} (h : Sp k t tt p b) : k ≤ 4 := by
  induction h with
  | up _ ih => omega
  | more _ _ _ ih => exact ih
  | _ => omega
theorem Sp.down {t tt p b} : ∀ {k : Nat} (j : Nat), Sp (k + j) t tt p b → Sp k t tt p b
  | _, 0, h => h
  | k, j + 1, h => Sp.down j (Sp.up (k := k + j) h)
/-- what must not follow -/
def forb : Nat → List Nat
  | 0 => [40, 42, 43, 45, 60, 61]
  | 1 => [40, 42, 43, 45, 60, 61]
  | 2 => [40, 42]
  | _ => [40]
def NR (k : Nat) (r : List Tok) : Prop := ∀ c r', r = .sign c :: r' → c ∉ forb k
theorem NR.up {k : Nat} {r : List Tok} (h : NR k r) : NR (k + 1) r := fun c r' e z => h c r' e (by
  have : ∀ k, ∀ c ∈ forb (k + 1), c ∈ forb k := by
    intro k
    match k with
    | 0 => decide
    | 1 => decide
    | 2 => decide
    | k + 3 => exact fun c h => h
  exact this k c z)
theorem NR.sign {k c : Nat} {r : List Tok} (h : c ∉ forb k) : NR k (.sign c :: r) := fun c' r' e => by cases e; exact h
theorem NR.word {k : Nat} {l : List Nat} {r : List Tok} : NR k (.word l :: r) := fun c' r' e => by cases e
theorem loop_end {x : PR} {cs : List Nat} {m : Nat} {t : Tr} {r : List Tok} (hm : r.length < m) (h : ∀ c r', r = .sign c :: r' → c ∉ cs) : opLoop x cs m t r = some (t, r) := by
  obtain ⟨m, rfl⟩ : ∃ k, m = k + 1 := ⟨m - 1, by omega⟩
  cases r with
  | nil => rfl
  | cons y r =>
    cases y with
    | sign c => rw [opLoop, if_neg (h c r rfl)]
    | word _ => rfl
    | num _ => rfl
    | str _ => rfl
theorem loop_go {x : PR} {cs : List Nat} {m c : Nat} {t u : Tr} {q r : List Tok} (hc : c ∈ cs) (hm : (Tok.sign c :: (q ++ r)).length < m) (hx : x (q ++ r) = some (u, r)) (hh : hgt (.op c t u) ≤ 12) :
    ∃ m', r.length < m' ∧ opLoop x cs m t (.sign c :: (q ++ r)) = opLoop x cs m' (.op c t u) r := by
  obtain ⟨m, rfl⟩ : ∃ k, m = k + 1 := ⟨m - 1, by omega⟩
  refine ⟨m, by simp at hm; omega, ?_⟩
  rw [opLoop, if_pos hc, hx]
  show (if _ then _ else _) = _
  rw [if_pos hh]
theorem sep_len (c : Nat) : ∀ l : List (List Tok), l.length ≤ (sepBy c l).length + 1
  | [] => by simp
  | [a] => by simp
  | a :: b :: l => by
    have := sep_len c (b :: l)
    show l.length + 2 ≤ (a ++ (.sign c :: sepBy c (b :: l))).length + 1
    rw [List.length_append, List.length_cons]
    have e : (b :: l).length = l.length + 1 := rfl
    omega
theorem many_sep {w : PR} {sep : Nat} (hs : sep = 59 ∨ sep = 44) {r : List Tok} : ∀ (l : List (Tr × List Tok)) (m : Nat), l ≠ [] → l.length ≤ m → (∀ x ∈ l, ∀ r, NR 0 r → w (x.2 ++ r) = some (x.1, r)) →
    many w sep m (sepBy sep (l.map (·.2)) ++ (.sign 41 :: r)) = some (l.map (·.1), .sign 41 :: r)
  | [], _, h, _, _ => absurd rfl h
  | [(t, tt)], m, _, hm, hw => by
    obtain ⟨m, rfl⟩ : ∃ k, m = k + 1 := ⟨m - 1, by simp at hm; omega⟩
    show many w sep (m + 1) (tt ++ (.sign 41 :: r)) = _
    rw [many, hw (t, tt) List.mem_cons_self _ (NR.sign (by decide))]
    show (if 41 = sep then _ else _) = _
    rw [if_neg (by rcases hs with h | h <;> rw [h] <;> decide)]
    rfl
  | (t, tt) :: y :: l, m, _, hm, hw => by
    obtain ⟨m, rfl⟩ : ∃ k, m = k + 1 := ⟨m - 1, by simp at hm; omega⟩
    have ih := many_sep hs (r := r) (y :: l) m (by simp) (by simpa using hm) (fun x hx => hw x (List.mem_cons_of_mem _ hx))
    show many w sep (m + 1) (tt ++ (.sign sep :: sepBy sep ((y :: l).map (·.2))) ++ (.sign 41 :: r)) = _
    rw [List.append_assoc, List.cons_append, many, hw (t, tt) List.mem_cons_self _ (NR.sign (by rcases hs with h | h <;> rw [h] <;> decide))]
    show (if sep = sep then _ else _) = _
    rw [if_pos rfl, ih]
    rfl
theorem hgtL_le {h : Nat} : ∀ {l : List Tr}, (∀ x ∈ l, hgt x ≤ h) → hgtL l ≤ h
  | [], _ => by rw [hgtL]; omega
  | t :: l, hx => by
    rw [hgtL]
    have := hx t List.mem_cons_self
    have := hgtL_le (l := l) (fun x z => hx x (List.mem_cons_of_mem _ z))
    omega
/-- the first token of what is no if and no set -/
theorem Sp.head {k t tt p b} (h : Sp k t tt p b) : 1 ≤ k → ∃ x r, tt = x :: r ∧ (∀ l, x = .word l → nmB l = true) := by
  induction h with
  | num => exact fun _ => ⟨_, _, rfl, fun l e => by cases e⟩
  | str => exact fun _ => ⟨_, _, rfl, fun l e => by cases e⟩
  | name hn => exact fun _ => ⟨_, _, rfl, fun l e => by cases e; exact hn⟩
  | call hn => exact fun _ => ⟨_, _, rfl, fun l e => by cases e; exact hn⟩
  | par => exact fun _ => ⟨_, _, rfl, fun l e => by cases e⟩
  | mul _ _ _ _ ih _ => intro _; obtain ⟨x, r, e, h⟩ := ih (by omega); exact ⟨x, _, by rw [e]; rfl, h⟩
  | add _ _ _ _ _ ih _ => intro _; obtain ⟨x, r, e, h⟩ := ih (by omega); exact ⟨x, _, by rw [e]; rfl, h⟩
  | cmp _ _ _ _ _ ih _ => intro _; obtain ⟨x, r, e, h⟩ := ih (by omega); exact ⟨x, _, by rw [e]; rfl, h⟩
  | ite => intro h; omega
  | set => intro h; omega
  | up _ ih => intro h; exact ih (by omega)
  | more _ _ _ ih => exact ih
theorem whole_if (wb a : PR) (r : List Tok) : wholeP wb a (.word wIf :: r) = iteP wb r := by rw [wholeP, if_pos rfl]
theorem whole_set (wb a : PR) (r : List Tok) : wholeP wb a (.word wSet :: r) = setP wb r := by rw [wholeP, if_neg (by decide +kernel), if_pos rfl]
theorem after_eq (x : List Nat) (f : PR) (r : List Tok) : afterW x f (.word x :: r) = f r := if_pos rfl
/-- what is said at each level -/
def At (k : Nat) (t : Tr) (tt : List Tok) (n d b0 : Nat) (r : List Tok) : Prop :=
  match k with
  | 0 => P (n + 1) d b0 (tt ++ r) = some (t, r)
  | 1 => cmpP (atomP (decide (d + 1 ≤ 10)) (P n (d + 1) b0)) (tt ++ r) = some (t, r)
  | 2 => ∃ m, r.length < m ∧ addP (atomP (decide (d + 1 ≤ 10)) (P n (d + 1) b0)) (tt ++ r) = opLoop (mulP (atomP (decide (d + 1 ≤ 10)) (P n (d + 1) b0))) [43, 45] m t r
  | 3 => ∃ m, r.length < m ∧ mulP (atomP (decide (d + 1 ≤ 10)) (P n (d + 1) b0)) (tt ++ r) = opLoop (atomP (decide (d + 1 ≤ 10)) (P n (d + 1) b0)) [42] m t r
  | _ => atomP (decide (d + 1 ≤ 10)) (P n (d + 1) b0) (tt ++ r) = some (t, r)
theorem at_mul {t tt n d b0 r} (h : At 3 t tt n d b0 r) (hr : NR 2 r) : mulP (atomP (decide (d + 1 ≤ 10)) (P n (d + 1) b0)) (tt ++ r) = some (t, r) := by
  obtain ⟨m, hm, e⟩ := h
  rw [e, loop_end hm (fun c r' z q => hr c r' z (by revert q; show c ∈ [42] → c ∈ [40, 42]; simp; omega))]
theorem at_add {t tt n d b0 r} (h : At 2 t tt n d b0 r) (hr : ∀ c r', r = Tok.sign c :: r' → c ∉ [43, 45]) : addP (atomP (decide (d + 1 ≤ 10)) (P n (d + 1) b0)) (tt ++ r) = some (t, r) := by
  obtain ⟨m, hm, e⟩ := h
  rw [e, loop_end hm hr]
theorem sp_at {k t tt p b} (h : Sp k t tt p b) : ∀ n d b0 r, p + b ≤ n → d + p ≤ 10 → b0 + b ≤ 11 → NR k r → At k t tt n d b0 r := by
  induction h with
  | num => exact fun n d b0 r _ _ _ _ => rfl
  | str => exact fun n d b0 r _ _ _ _ => rfl
  | @name l p b hn =>
    intro n d b0 r _ _ _ hr
    show atomP _ _ (.word l :: r) = _
    unfold atomP
    split
    · rename_i e; cases e
    · rename_i e; cases e
    · rename_i e; cases e
    · rename_i e; cases e; exact absurd (List.mem_cons_self) (hr 40 _ rfl)
    · rename_i e; cases e; exact absurd (List.mem_cons_self) (hr 40 _ rfl)
    · rename_i e
      cases e
      rw [if_pos hn]
    · rename_i h
      exact absurd rfl (h _ _)
  | @call f p b l hn hl hh ih =>
    intro n d b0 r h1 h2 h3 hr
    have ok : decide (d + 1 ≤ 10) = true := decide_eq_true (by omega)
    obtain ⟨n, rfl⟩ : ∃ k, n = k + 1 := ⟨n - 1, by omega⟩
    show atomP (decide (d + 1 ≤ 10)) _ (.word f :: .sign 40 :: (sepBy 44 (l.map (·.2)) ++ [.sign 41] ++ r)) = _
    rw [ok]
    cases l with
    | nil =>
      show (if nmB f && true then _ else _) = _
      rw [hn]
      rfl
    | cons x l =>
      have ml := many_sep (w := P (n + 1) (d + 1) b0) (sep := 44) (r := r) (.inr rfl) (x :: l) ((sepBy 44 (List.map (fun z : Tr × List Tok => z.2) (x :: l)) ++ [Tok.sign 41] ++ r).length + 1) (by simp)
        (by have := sep_len 44 ((x :: l).map (·.2)); simp only [List.length_append, List.length_cons, List.length_map, List.length_nil] at this ⊢; omega)
        (fun y hy r' hr' => ih y hy n (d + 1) b0 r' (by omega) (by omega) (by omega) hr')
      have pe : parens (P (n + 1) (d + 1) b0) 44 (sepBy 44 ((x :: l).map (·.2)) ++ [.sign 41] ++ r) = some ((x :: l).map (·.1), r) := by
        unfold parens
        rw [List.append_assoc] at ml ⊢
        show (match many _ 44 _ (sepBy 44 ((x :: l).map (·.2)) ++ (.sign 41 :: r)) with | some (l, .sign 41 :: r) => some (l, r) | _ => none) = _
        rw [show [Tok.sign 41] ++ r = .sign 41 :: r from rfl] at ml ⊢
        rw [ml]
        rfl
      unfold atomP
      split
      · rename_i e; cases e
      · rename_i e; cases e
      · rename_i e; cases e
      · rename_i l' r' e
        exfalso
        -- a text does not begin with a closing parenthesis
        injection e with e0 e
        injection e with e1 e
        rw [e] at pe
        have : parens (P (n + 1) (d + 1) b0) 44 (.sign 41 :: r') = none := by
          unfold parens many
          have : P (n + 1) (d + 1) b0 (.sign 41 :: r') = none := rfl
          rw [this]
        rw [this] at pe
        cases pe
      · rename_i l' r' _ e
        injection e with e0 e
        injection e with e1 e
        injection e0 with e0
        subst e0
        rw [hn, ← e]
        show (if (true && true) = true then (match parens _ 44 (sepBy 44 ((x :: l).map (·.2)) ++ [.sign 41] ++ r) with | none => none | some (as, r2) => (bd (.call f as)).map fun t => (t, r2)) else none) = _
        rw [pe]
        show (bd (.call f ((x :: l).map (·.1)))).map _ = _
        unfold bd
        rw [if_pos (by
          rw [hgt]
          have := hgtL_le (h := 11) (l := (x :: l).map (·.1)) (fun y hy => by obtain ⟨z, hz, e⟩ := List.mem_map.mp hy; rw [← e]; exact hh z hz)
          omega)]
        rfl
      · rename_i _ h e
        cases e
        exact (h _ rfl).elim
      · rename_i h _
        exact (h _ _ rfl).elim
  | @par t p b l hf hl ih =>
    intro n d b0 r h1 h2 h3 hr
    have ok : decide (d + 1 ≤ 10) = true := decide_eq_true (by omega)
    obtain ⟨n, rfl⟩ : ∃ k, n = k + 1 := ⟨n - 1, by omega⟩
    show atomP (decide (d + 1 ≤ 10)) _ (.sign 40 :: (sepBy 59 (l.map (·.2)) ++ [.sign 41] ++ r)) = _
    rw [ok]
    have hn : l ≠ [] := fun z => by rw [z] at hf; cases hf
    have ml := many_sep (w := P (n + 1) (d + 1) b0) (sep := 59) (r := r) (.inl rfl) l ((sepBy 59 (List.map (fun z : Tr × List Tok => z.2) l) ++ [Tok.sign 41] ++ r).length + 1) hn
        (by have := sep_len 59 (l.map (·.2)); simp only [List.length_append, List.length_cons, List.length_map, List.length_nil] at this ⊢; omega)
        (fun y hy r' hr' => ih y hy n (d + 1) b0 r' (by omega) (by omega) (by omega) hr')
    have pe : parens (P (n + 1) (d + 1) b0) 59 (sepBy 59 (l.map (·.2)) ++ [.sign 41] ++ r) = some (l.map (·.1), r) := by
      unfold parens
      rw [List.append_assoc] at ml ⊢
      rw [show [Tok.sign 41] ++ r = .sign 41 :: r from rfl] at ml ⊢
      rw [ml]
      rfl
    show (if true then (match parens _ 59 _ with | none => none | some (l, r2) => (foldSeq l).map fun t => (t, r2)) else none) = _
    rw [pe]
    show (foldSeq (l.map (·.1))).map _ = _
    rw [hf]
    rfl
  | @mul t u tt uu p b _ _ ht hu iht ihu =>
    intro n d b0 r h1 h2 h3 hr
    obtain ⟨m, hm, e⟩ := iht n d b0 (.sign 42 :: (uu ++ r)) h1 h2 h3 (NR.sign (by decide))
    have eu := ihu n d b0 r h1 h2 h3 hr
    obtain ⟨m', hm', e'⟩ := loop_go (t := t) (cs := [42]) (c := 42) (by decide) hm eu (by rw [hgt]; omega)
    refine ⟨m', hm', ?_⟩
    rw [List.append_assoc]
    exact e.trans e'
  | @add c t u tt uu p b hc _ _ ht hu iht ihu =>
    intro n d b0 r h1 h2 h3 hr
    obtain ⟨m, hm, e⟩ := iht n d b0 (.sign c :: (uu ++ r)) h1 h2 h3 (NR.sign (by rcases hc with h | h <;> rw [h] <;> decide))
    have eu := at_mul (ihu n d b0 r h1 h2 h3 hr.up) hr
    obtain ⟨m', hm', e'⟩ := loop_go (t := t) (cs := [43, 45]) (c := c) (by rcases hc with h | h <;> rw [h] <;> decide) hm eu (by rw [hgt]; omega)
    refine ⟨m', hm', ?_⟩
    rw [List.append_assoc]
    exact e.trans e'
  | @cmp c t u tt uu p b hc _ _ ht hu iht ihu =>
    intro n d b0 r h1 h2 h3 hr
    have nr : ∀ c r', r = Tok.sign c :: r' → c ∉ [43, 45] := fun c r' e z => hr c r' e (by revert z; show c ∈ [43, 45] → c ∈ [40, 42, 43, 45, 60, 61]; simp; omega)
    have ht' := at_add (iht n d b0 (.sign c :: (uu ++ r)) h1 h2 h3 (NR.sign (by rcases hc with h | h <;> rw [h] <;> decide))) (fun c' r' e => by cases e; rcases hc with h | h <;> rw [h] <;> decide)
    have hu' := at_add (ihu n d b0 r h1 h2 h3 hr.up) nr
    show cmpP _ (tt ++ (.sign c :: uu) ++ r) = _
    rw [List.append_assoc]
    unfold cmpP
    rw [show (.sign c :: uu) ++ r = Tok.sign c :: (uu ++ r) from rfl, ht']
    show (if c = 61 ∨ c = 60 then _ else _) = _
    rw [if_pos hc, hu']
    show (bd _).map _ = _
    unfold bd
    rw [if_pos (by rw [hgt]; omega)]
    rfl
  | @ite x y z xx yy zz p b _ _ _ hx hy hz ihx ihy ihz =>
    intro n d b0 r h1 h2 h3 hr
    obtain ⟨n, rfl⟩ : ∃ k, n = k + 1 := ⟨n - 1, by omega⟩
    have ex := ihx n d (b0 + 1) (.word wThen :: (yy ++ (.word wElse :: (zz ++ r)))) (by omega) h2 (by omega) NR.word
    have ey := ihy n d (b0 + 1) (.word wElse :: (zz ++ r)) (by omega) h2 (by omega) NR.word
    have ez := ihz n d (b0 + 1) r (by omega) h2 (by omega) hr
    have ex : P (n + 1) d (b0 + 1) _ = _ := ex
    have ey : P (n + 1) d (b0 + 1) _ = _ := ey
    have ez : P (n + 1) d (b0 + 1) _ = _ := ez
    show P (n + 1 + 1) d b0 _ = _
    rw [P]
    show wholeP _ _ (.word wIf :: ((xx ++ (.word wThen :: (yy ++ (.word wElse :: zz)))) ++ r)) = _
    rw [whole_if, if_pos (by omega), List.append_assoc, List.cons_append, List.append_assoc, List.cons_append]
    unfold iteP
    rw [ex]
    dsimp only
    rw [after_eq, ey]
    dsimp only
    rw [after_eq, ez]
    show (bd _).map _ = _
    unfold bd
    rw [if_pos (by rw [hgt]; omega)]
    rfl
  | @set x t tt p b hn _ ht ih =>
    intro n d b0 r h1 h2 h3 hr
    obtain ⟨n, rfl⟩ : ∃ k, n = k + 1 := ⟨n - 1, by omega⟩
    have ez : P (n + 1) d (b0 + 1) _ = _ := ih n d (b0 + 1) r (by omega) h2 (by omega) hr
    show P (n + 1 + 1) d b0 _ = _
    rw [P]
    show wholeP _ _ (.word wSet :: .word x :: .sign 61 :: (tt ++ r)) = _
    rw [whole_set, if_pos (by omega)]
    show (if nmB x then (match P (n + 1) d (b0 + 1) (tt ++ r) with | none => none | some (t, r) => (bd (.set x t)).map fun t => (t, r)) else none) = _
    rw [if_pos hn, ez]
    show (bd _).map _ = _
    unfold bd
    rw [if_pos (by rw [hgt]; omega)]
    rfl
  | @up k t tt p b h ih =>
    intro n d b0 r h1 h2 h3 hr
    have i := ih n d b0 r h1 h2 h3 hr.up
    match k, h, hr, i with
    | 0, h, hr, i =>
      have i : cmpP _ _ = _ := i
      obtain ⟨x, r', e, hx⟩ := h.head (by omega)
      show P (n + 1) d b0 _ = _
      rw [P, e]
      rw [e] at i
      cases x with
      | word l =>
        have hl := hx l rfl
        have n1 : l ≠ wIf := fun z => by rw [z] at hl; exact absurd hl (by decide +kernel)
        have n2 : l ≠ wSet := fun z => by rw [z] at hl; exact absurd hl (by decide +kernel)
        show (if l = wIf then _ else if l = wSet then _ else _) = _
        rw [if_neg n1, if_neg n2]
        exact i
      | num _ => exact i
      | str _ => exact i
      | sign _ => exact i
    | 1, h, hr, i =>
      have a := at_add i (fun c r' e z => hr c r' e (by revert z; show c ∈ [43, 45] → c ∈ [40, 42, 43, 45, 60, 61]; simp; omega))
      show cmpP _ _ = _
      unfold cmpP
      rw [a]
      cases r with
      | nil => rfl
      | cons y r =>
        cases y with
        | sign c =>
          have nc : ¬ (c = 61 ∨ c = 60) := fun z => hr c r rfl (by rcases z with h | h <;> rw [h] <;> decide)
          show (if c = 61 ∨ c = 60 then _ else _) = _
          rw [if_neg nc]
        | word _ => rfl
        | num _ => rfl
        | str _ => rfl
    | 2, h, hr, i =>
      have a := at_mul i hr
      refine ⟨r.length + 1, by omega, ?_⟩
      unfold addP
      rw [a]
    | 3, h, hr, i =>
      have i : atomP _ _ _ = _ := i
      refine ⟨r.length + 1, by omega, ?_⟩
      unfold mulP
      rw [i]
    | k + 4, h, hr, i => exact absurd h.le4 (by omega)
  | more _ hp hb ih => exact fun n d b0 r h1 h2 h3 hr => ih n d b0 r (by omega) (by omega) (by omega) hr
/-- the tree is found again -/
theorem sp_parse {t tt p b} (h : Sp 0 t tt p b) (hp : p ≤ 10) (hb : b ≤ 11) : parseM tt = some t := by
  have := sp_at h 29 0 0 [] (by omega) (by omega) (by omega) (fun c r' e => by cases e)
  have this : P 30 0 0 (tt ++ []) = some (t, []) := this
  rw [List.append_nil] at this
  unfold parseM
  rw [this]
end K2

set_option maxRecDepth 100000
set_option maxHeartbeats 4000000
/-! texts of trees, and how they are split -/
namespace K2
open PySem hiding Tok
open K1

def nhd (b : List Nat) : Prop := ∀ c r, b = c :: r → c ∉ LET ∧ c ∉ DIG
/-- split into these tokens, whatever is split behind it -/
def LF (a : List Nat) (ts : List Tok) : Prop := ∀ b o, Lex b o → Lex (a ++ b) (o.map (ts ++ ·))
/-- the same, where no letter and no digit follows -/
def LP (a : List Nat) (ts : List Tok) : Prop := ∀ b o, nhd b → Lex b o → Lex (a ++ b) (o.map (ts ++ ·))
def st (b : List Nat) : Prop := ∃ c r, b = c :: r ∧ c ∉ LET ∧ c ∉ DIG
theorem LF.toP {a ts} (h : LF a ts) : LP a ts := fun b o _ x => h b o x
theorem map_app {o : Option (List Tok)} {ts us : List Tok} : (o.map (us ++ ·)).map (ts ++ ·) = o.map ((ts ++ us) ++ ·) := by
  cases o with
  | none => rfl
  | some l => show some (ts ++ (us ++ l)) = some ((ts ++ us) ++ l); rw [List.append_assoc]
theorem LF.app {a ts b us} (h : LF a ts) (k : LF b us) : LF (a ++ b) (ts ++ us) := fun c o x => by
  rw [List.append_assoc, ← map_app]
  exact h _ _ (k _ _ x)
theorem LF.appP {a ts b us} (h : LF a ts) (k : LP b us) : LP (a ++ b) (ts ++ us) := fun c o n x => by
  rw [List.append_assoc, ← map_app]
  exact h _ _ (k _ _ n x)
theorem LP.appF {a ts b us} (h : LP a ts) (k : LF b us) (hb : st b) : LF (a ++ b) (ts ++ us) := fun c o x => by
  rw [List.append_assoc, ← map_app]
  refine h _ _ (fun c' r e => ?_) (k _ _ x)
  obtain ⟨d, r', e', hd⟩ := hb
  rw [e'] at e
  cases e
  exact hd
theorem LP.app {a ts b us} (h : LP a ts) (k : LP b us) (hb : st b) : LP (a ++ b) (ts ++ us) := fun c o n x => by
  rw [List.append_assoc, ← map_app]
  refine h _ _ (fun c' r e => ?_) (k _ _ n x)
  obtain ⟨d, r', e', hd⟩ := hb
  rw [e'] at e
  cases e
  exact hd
theorem LF.nil : LF [] [] := fun b o x => by cases o <;> exact x
def B (g : Nat) : List Nat := List.replicate g 32
theorem LF.blanks (g : Nat) : LF (B g) [] := fun b o x => by
  have e : o.map (([] : List Tok) ++ ·) = o := by cases o <;> rfl
  rw [e]
  exact lex_blanks x g
theorem lex_tok {t : Tok} {b : List Nat} {o : Option (List Tok)} (g : good t) (ap : apart t b) (h : Lex b o) : Lex (spell t ++ b) (o.map ([t] ++ ·)) := by
  obtain ⟨c, r, e, hc, hl⟩ := lex_spell g ap
  have d : (spell t ++ b).drop (spell t).length = b := List.drop_left' rfl
  rw [e] at d ⊢
  exact .tok hc hl (by rw [d]; exact h)
theorem LP.tok {t : Tok} (g : good t) : LP (spell t) [t] := fun b o n h => lex_tok g (by
  cases t with
  | word l => exact fun c r e => (n c r e).1
  | num k => exact fun c r e => (n c r e).2
  | str _ => trivial
  | sign _ => trivial) h
theorem LF.sign {c : Nat} (g : c ∈ SGN) : LF [c] [.sign c] := fun b o h => lex_tok (t := .sign c) g trivial h
theorem st_sign {c : Nat} (g : c ∈ SGN) (r : List Nat) : st (c :: r) := ⟨c, r, rfl, by
  have : ∀ c ∈ SGN, c ∉ LET ∧ c ∉ DIG := by decide
  exact this c g⟩
theorem st_blank (r : List Nat) : st (32 :: r) := ⟨32, r, rfl, by decide, by decide⟩
theorem st_gap {g : Nat} {r : List Nat} (h : st r) : st (B g ++ r) := by
  cases g with
  | zero => exact h
  | succ g => exact st_blank _
theorem nmB_good {l : List Nat} (h : nmB l = true) : good (.word l) := by
  unfold nmB at h
  rw [Bool.and_eq_true, Bool.and_eq_true] at h
  have h1 := of_decide_eq_true h.1.1
  refine ⟨fun e => by rw [e] at h1; exact absurd h1.1 (by decide), h1.2, fun c hc => of_decide_eq_true (List.all_eq_true.mp h.2 c hc)⟩

/-- a text that spells a tree where level k must stand -/
def Ok (k : Nat) (t : Tr) (L : List Nat) (p b : Nat) : Prop := ∃ ts, LP L ts ∧ Sp k t ts p b
/-- the inside of parentheses -/
def OkS (t : Tr) (L : List Nat) (p b : Nat) : Prop := ∃ l : List (Tr × List Tok), foldSeq (l.map (·.1)) = some t ∧ (∀ x ∈ l, Sp 0 x.1 x.2 p b) ∧ LP L (sepBy 59 (l.map (·.2)))
/-- arguments -/
def OkL (as : List Tr) (L : List Nat) (p b : Nat) : Prop := ∃ l : List (Tr × List Tok), l.map (·.1) = as ∧ (∀ x ∈ l, Sp 0 x.1 x.2 p b) ∧ LP L (sepBy 44 (l.map (·.2)))
theorem Ok.more {k t L p b p' b'} (h : Ok k t L p b) (hp : p ≤ p') (hb : b ≤ b') : Ok k t L p' b' := by obtain ⟨ts, h1, h2⟩ := h; exact ⟨ts, h1, h2.more hp hb⟩
theorem Ok.down {k j t L p b} (h : Ok k t L p b) (hj : j ≤ k) : Ok j t L p b := by
  obtain ⟨ts, h1, h2⟩ := h
  refine ⟨ts, h1, Sp.down (k - j) ?_⟩
  rw [show j + (k - j) = k by omega]
  exact h2
theorem Ok.num {n p b} (h : n ≤ 99999) : Ok 4 (.num n) (numT n) p b := ⟨_, LP.tok (t := .num n) h, .num⟩
theorem Ok.str {l p b} (h1 : l.length ≤ 20) (h2 : ∀ c ∈ l, mayB c = true) : Ok 4 (.str l) ([34] ++ l ++ [34]) p b := ⟨_, LP.tok (t := .str l) ⟨h1, h2⟩, .str⟩
theorem Ok.name {l p b} (h : nmB l = true) : Ok 4 (.name l) l p b := ⟨_, LP.tok (t := .word l) (nmB_good h), .name h⟩
theorem OkS.one {t L p b} (h : Ok 0 t L p b) : OkS t L p b := by
  obtain ⟨ts, h1, h2⟩ := h
  exact ⟨[(t, ts)], rfl, fun x hx => by rw [List.mem_singleton.mp hx]; exact h2, h1⟩
theorem OkS.cons {t u L M p b} (g : Nat) (h : Ok 0 t L p b) (k : OkS u M p b) (ht : hgt t ≤ 11) (hu : hgt u ≤ 11) : OkS (.seq t u) (L ++ ([59] ++ (B g ++ M))) p b := by
  obtain ⟨ts, h1, h2⟩ := h
  obtain ⟨l, k1, k2, k3⟩ := k
  have hn : l ≠ [] := fun z => by rw [z] at k1; cases k1
  refine ⟨(t, ts) :: l, ?_, fun x hx => ?_, ?_⟩
  · cases l with
    | nil => exact absurd rfl hn
    | cons y l =>
      show (match foldSeq ((y :: l).map (·.1)) with | none => none | some u => bd (.seq t u)) = _
      rw [k1]
      show bd _ = _
      unfold bd
      rw [if_pos (by rw [hgt]; omega)]
  · rcases List.mem_cons.mp hx with rfl | hx
    · exact h2
    · exact k2 x hx
  · cases l with
    | nil => exact absurd rfl hn
    | cons y l => exact h1.app ((LF.sign (by decide)).appP ((LF.blanks g).appP k3)) (st_sign (by decide) _)
theorem OkS.par {t L p b} (g : Nat) (h : OkS t L p b) : Ok 4 t ([40] ++ (B g ++ (L ++ [41]))) (p + 1) b := by
  obtain ⟨l, k1, k2, k3⟩ := h
  refine ⟨_, ?_, .par k1 k2⟩
  exact (LF.sign (c := 40) (by decide)).appP ((LF.blanks g).appP (k3.app (LF.sign (c := 41) (by decide)).toP (st_sign (by decide) _)))
theorem Ok.par {t L p b} (g : Nat) (h : Ok 0 t L p b) : Ok 4 t ([40] ++ (B g ++ (L ++ [41]))) (p + 1) b := (OkS.one h).par g
theorem OkL.nil {p b} : OkL [] [] p b := ⟨[], rfl, fun x hx => absurd hx List.not_mem_nil, LF.nil.toP⟩
theorem OkL.one {t L p b} (h : Ok 0 t L p b) : OkL [t] L p b := by
  obtain ⟨ts, h1, h2⟩ := h
  exact ⟨[(t, ts)], rfl, fun x hx => by rw [List.mem_singleton.mp hx]; exact h2, h1⟩
theorem OkL.cons {t u as L M p b} (g : Nat) (h : Ok 0 t L p b) (k : OkL (u :: as) M p b) : OkL (t :: u :: as) (L ++ ([44] ++ (B g ++ M))) p b := by
  obtain ⟨ts, h1, h2⟩ := h
  obtain ⟨l, k1, k2, k3⟩ := k
  refine ⟨(t, ts) :: l, by show t :: l.map (·.1) = _; rw [k1], fun x hx => ?_, ?_⟩
  · rcases List.mem_cons.mp hx with rfl | hx
    · exact h2
    · exact k2 x hx
  · cases l with
    | nil => cases k1
    | cons y l => exact h1.app ((LF.sign (by decide)).appP ((LF.blanks g).appP k3)) (st_sign (by decide) _)
theorem Ok.call {f as L p b} (g1 g2 : Nat) (hf : nmB f = true) (h : OkL as L p b) (hh : ∀ t ∈ as, hgt t ≤ 11) : Ok 4 (.call f as) (f ++ (B g1 ++ ([40] ++ (B g2 ++ (L ++ [41]))))) (p + 1) b := by
  obtain ⟨l, k1, k2, k3⟩ := h
  subst k1
  refine ⟨_, ?_, .call hf k2 fun x hx => hh _ (List.mem_map_of_mem hx)⟩
  have q : LP (B g1 ++ ([40] ++ (B g2 ++ (L ++ [41])))) _ :=
    (LF.blanks g1).appP ((LF.sign (c := 40) (by decide)).appP ((LF.blanks g2).appP (k3.app (LF.sign (c := 41) (by decide)).toP (st_sign (by decide) _))))
  exact (LP.tok (t := .word f) (nmB_good hf)).app q (st_gap (st_sign (by decide) _))
theorem ops_sgn {c : Nat} (h : c ∈ [42, 43, 45, 60, 61]) : c ∈ SGN := by
  have : ∀ c ∈ [42, 43, 45, 60, 61], c ∈ SGN := by decide
  exact this c h
def lvlO (c : Nat) : Nat := if c = 61 ∨ c = 60 then 1 else if c = 43 ∨ c = 45 then 2 else 3
/-- which level the left side needs, and the right -/
def lL (c : Nat) : Nat := if lvlO c = 1 then 2 else lvlO c
def lR (c : Nat) : Nat := lvlO c + 1
theorem Ok.op {c t u L M p b} (g1 g2 : Nat) (hc : c ∈ [42, 43, 45, 60, 61]) (h : Ok (lL c) t L p b) (k : Ok (lR c) u M p b) (ht : hgt t ≤ 11) (hu : hgt u ≤ 11) :
    Ok (lvlO c) (.op c t u) (L ++ (B g1 ++ ([c] ++ (B g2 ++ M)))) p b := by
  obtain ⟨ts, h1, h2⟩ := h
  obtain ⟨us, k1, k2⟩ := k
  have q : LP (B g1 ++ ([c] ++ (B g2 ++ M))) ([] ++ ([.sign c] ++ ([] ++ us))) := (LF.blanks g1).appP ((LF.sign (ops_sgn hc)).appP ((LF.blanks g2).appP k1))
  refine ⟨ts ++ (.sign c :: us), h1.app q (st_gap (st_sign (ops_sgn hc) _)), ?_⟩
  simp only [List.mem_cons, List.not_mem_nil, or_false] at hc
  rcases hc with rfl | rfl | rfl | rfl | rfl
  · exact .mul h2 k2 ht hu
  · exact .add (.inl rfl) h2 k2 ht hu
  · exact .add (.inr rfl) h2 k2 ht hu
  · exact .cmp (.inr rfl) h2 k2 ht hu
  · exact .cmp (.inl rfl) h2 k2 ht hu
theorem LF.kw {l : List Nat} (h : good (.word l)) : LF (l ++ [32]) [.word l] := by
  have := (LP.tok h).appF (LF.blanks 1) (st_blank _)
  exact this
theorem Ok.ite {x y z L M N p b} (h : Ok 0 x L p b) (i : Ok 0 y M p b) (j : Ok 0 z N p b) (hx : hgt x ≤ 11) (hy : hgt y ≤ 11) (hz : hgt z ≤ 11) :
    Ok 0 (.ite x y z) (code "if " ++ (L ++ (code " then " ++ (M ++ (code " else " ++ N))))) p (b + 1) := by
  obtain ⟨xs, h1, h2⟩ := h
  obtain ⟨ys, i1, i2⟩ := i
  obtain ⟨zs, j1, j2⟩ := j
  have eI : code "if " = wIf ++ [32] := by decide +kernel
  have eT : code " then " = B 1 ++ (wThen ++ [32]) := by decide +kernel
  have eE : code " else " = B 1 ++ (wElse ++ [32]) := by decide +kernel
  have gd : ∀ w ∈ [wIf, wThen, wElse], w ≠ [] ∧ w.length ≤ 6 ∧ ∀ c ∈ w, c ∈ LET := by decide +kernel
  have kI : LF (code "if ") [.word wIf] := by rw [eI]; exact LF.kw (gd _ (by simp))
  have kT : LF (code " then ") [.word wThen] := by rw [eT]; exact (LF.blanks 1).app (LF.kw (gd _ (by simp)))
  have kE : LF (code " else ") [.word wElse] := by rw [eE]; exact (LF.blanks 1).app (LF.kw (gd _ (by simp)))
  refine ⟨_, kI.appP (h1.app (kT.appP (i1.app (kE.appP j1) (by rw [eE]; exact st_blank _))) (by rw [eT]; exact st_blank _)), .ite h2 i2 j2 hx hy hz⟩
theorem Ok.set {x t L p b} (g1 g2 : Nat) (hn : nmB x = true) (h : Ok 0 t L p b) (ht : hgt t ≤ 11) : Ok 0 (.set x t) (code "set " ++ (x ++ (B g1 ++ ([61] ++ (B g2 ++ L))))) p (b + 1) := by
  obtain ⟨ts, h1, h2⟩ := h
  have eI : code "set " = wSet ++ [32] := by decide +kernel
  have gd : ∀ w ∈ [wSet], w ≠ [] ∧ w.length ≤ 6 ∧ ∀ c ∈ w, c ∈ LET := by decide +kernel
  have kI : LF (code "set ") [.word wSet] := by rw [eI]; exact LF.kw (gd _ (by simp))
  have q : LP (B g1 ++ ([61] ++ (B g2 ++ L))) ([] ++ ([.sign 61] ++ ([] ++ ts))) := (LF.blanks g1).appP ((LF.sign (by decide)).appP ((LF.blanks g2).appP h1))
  refine ⟨_, kI.appP ((LP.tok (t := .word x) (nmB_good hn)).app q (st_gap (st_sign (by decide) _))), .set hn h2 ht⟩
/-- what is read of such a text -/
theorem Ok.lex {k t L p b} (h : Ok k t L p b) (hk : k ≤ 4) (hp : p ≤ 10) (hb : b ≤ 11) : ∃ ts, Lex L (some ts) ∧ parseM ts = some t := by
  obtain ⟨ts, h1, h2⟩ := h.down (Nat.zero_le k)
  have := h1 [] (some []) (fun c r e => by cases e) .nil
  rw [List.append_nil] at this
  have this : Lex L (some (ts ++ [])) := this
  rw [List.append_nil] at this
  exact ⟨ts, this, sp_parse h2 hp hb⟩

/-! ### canonical texts -/
def lvl : Tr → Nat
  | .ite _ _ _ => 0
  | .set _ _ => 0
  | .op c _ _ => lvlO c
  | _ => 4
def inPar (b : Bool) (l : List Nat) : List Nat := if b then [40] ++ (l ++ [41]) else l
mutual
def core : Tr → List Nat
  | .num n => numT n
  | .str l => [34] ++ l ++ [34]
  | .name l => l
  | .call f as => f ++ ([40] ++ (coreL as ++ [41]))
  | .ite a b c => code "if " ++ (core a ++ (code " then " ++ (core b ++ (code " else " ++ core c))))
  | .set x t => code "set " ++ (x ++ ([32, 61, 32] ++ core t))
  | .seq a b => [40] ++ ((core a ++ ([59, 32] ++ rest b)) ++ [41])
  | .op c a b => inPar (decide (lvl a < lL c)) (core a) ++ ([32, c, 32] ++ inPar (decide (lvl b < lR c)) (core b))
def rest : Tr → List Nat
  | .seq a b => core a ++ ([59, 32] ++ rest b)
  | .num n => core (.num n)
  | .str n => core (.str n)
  | .name n => core (.name n)
  | .call f as => f ++ ([40] ++ (coreL as ++ [41]))
  | .ite a b c => code "if " ++ (core a ++ (code " then " ++ (core b ++ (code " else " ++ core c))))
  | .set x t => code "set " ++ (x ++ ([32, 61, 32] ++ core t))
  | .op c a b => inPar (decide (lvl a < lL c)) (core a) ++ ([32, c, 32] ++ inPar (decide (lvl b < lR c)) (core b))
def coreL : List Tr → List Nat
  | [] => []
  | t :: ts => core t ++ coreM ts
def coreM : List Tr → List Nat
  | [] => []
  | t :: ts => [44, 32] ++ (core t ++ coreM ts)
end
def wr (t : Tr) (least : Nat) : List Nat := inPar (decide (lvl t < least)) (core t)
theorem wr0 (t : Tr) : wr t 0 = core t := rfl
/-- a drawn tree -/
inductive Dr : Nat → Tr → Prop
  | num {d n} : n ≤ 99999 → Dr d (.num n)
  | str {d l} : l.length ≤ 12 → (∀ c ∈ l, mayB c = true) → Dr d (.str l)
  | name {d l} : nmB l = true → l.length ≤ 6 → Dr d (.name l)
  | call {d f as} : nmB f = true → f.length ≤ 6 → as.length ≤ 3 → (∀ t ∈ as, Dr d t) → Dr (d + 1) (.call f as)
  | ite {d a b c} : Dr d a → Dr d b → Dr d c → Dr (d + 1) (.ite a b c)
  | set {d x t} : nmB x = true → x.length ≤ 6 → Dr d t → Dr (d + 1) (.set x t)
  | seq {d a b} : Dr d a → Dr d b → Dr (d + 1) (.seq a b)
  | op {d c a b} : c ∈ [42, 43, 45, 60, 61] → Dr d a → Dr d b → Dr (d + 1) (.op c a b)
theorem Dr.hgt {d t} (h : Dr d t) : hgt t ≤ d + 1 := by
  induction h with
  | num => rw [K2.hgt]; omega
  | str => rw [K2.hgt]; omega
  | name => rw [K2.hgt]; omega
  | @call d f as _ _ _ _ ih => rw [K2.hgt]; have := hgtL_le (h := d + 1) (l := as) ih; omega
  | ite _ _ _ i j k => rw [K2.hgt]; omega
  | set _ _ _ i => rw [K2.hgt]; omega
  | seq _ _ i j => rw [K2.hgt]; omega
  | op _ _ _ i j => rw [K2.hgt]; omega
theorem Dr.more {d t} (h : Dr d t) : ∀ {e}, d ≤ e → Dr e t := by
  induction h with
  | num h => exact fun _ => .num h
  | str h k => exact fun _ => .str h k
  | name h k => exact fun _ => .name h k
  | call h k l _ ih => intro e he; obtain ⟨e, rfl⟩ : ∃ x, e = x + 1 := ⟨e - 1, by omega⟩; exact .call h k l fun t ht => ih t ht (by omega)
  | ite _ _ _ i j k => intro e he; obtain ⟨e, rfl⟩ : ∃ x, e = x + 1 := ⟨e - 1, by omega⟩; exact .ite (i (by omega)) (j (by omega)) (k (by omega))
  | set h k _ i => intro e he; obtain ⟨e, rfl⟩ : ∃ x, e = x + 1 := ⟨e - 1, by omega⟩; exact .set h k (i (by omega))
  | seq _ _ i j => intro e he; obtain ⟨e, rfl⟩ : ∃ x, e = x + 1 := ⟨e - 1, by omega⟩; exact .seq (i (by omega)) (j (by omega))
  | op h _ _ i j => intro e he; obtain ⟨e, rfl⟩ : ∃ x, e = x + 1 := ⟨e - 1, by omega⟩; exact .op h (i (by omega)) (j (by omega))
theorem ok_par {t L p b} (h : Ok (lvl t) t L p b) {k : Nat} (hk : k ≤ 4) : Ok k t (inPar (decide (lvl t < k)) L) (p + 1) b := by
  unfold inPar
  by_cases hl : lvl t < k
  · rw [if_pos (decide_eq_true hl)]
    exact (Ok.par 0 (h.down (Nat.zero_le _))).down hk
  · rw [if_neg (by simpa using hl)]
    exact (h.down (by omega)).more (by omega) (Nat.le_refl _)
theorem lL_le (c : Nat) : lL c ≤ 4 ∧ lR c ≤ 4 := by
  unfold lL lR lvlO
  split <;> split <;> (try split) <;> omega
/-- the canonical text of a drawn tree spells it -/
theorem core_ok {d t} (h : Dr d t) (hd : d ≤ 9) : Ok (lvl t) t (core t) d d ∧ OkS t (rest t) d d := by
  have sOf : ∀ {d t}, Ok (lvl t) t (core t) d d → OkS t (core t) d d := fun h => OkS.one (h.down (Nat.zero_le _))
  induction h with
  | num h =>
    rw [rest, core]
    exact ⟨Ok.num h, OkS.one ((Ok.num h).down (Nat.zero_le 4))⟩
  | str h k =>
    rw [rest, core]
    exact ⟨Ok.str (by omega) k, OkS.one ((Ok.str (by omega) k).down (Nat.zero_le 4))⟩
  | name h k =>
    rw [rest, core]
    exact ⟨Ok.name h, OkS.one ((Ok.name h).down (Nat.zero_le 4))⟩
  | @call d f as h k l hs ih =>
    have q : ∀ {as : List Tr}, (∀ t ∈ as, Ok 0 t (core t) d d) → OkL as (coreL as) d d := fun {as} => by
      induction as with
      | nil => intro _; rw [coreL]; exact OkL.nil
      | cons t as i =>
        intro hh
        cases as with
        | nil =>
          have := OkL.one (hh t (by simp))
          rw [coreL, coreM, List.append_nil]
          exact this
        | cons u as =>
          have := OkL.cons 1 (hh t (by simp)) (i fun x hx => hh x (List.mem_cons_of_mem _ hx))
          rw [coreL] at this ⊢
          rw [coreM]
          exact this
    have a : Ok 4 (.call f as) (core (.call f as)) (d + 1) (d + 1) := by
      have := Ok.call 0 0 h (q fun t ht => (ih t ht (by omega)).1.down (Nat.zero_le _)) (fun t ht => by have := (hs t ht).hgt; omega)
      rw [core]
      exact this.more (Nat.le_refl _) (by omega)
    exact ⟨a, by have := OkS.one (a.down (Nat.zero_le 4)); rw [core] at this; rw [rest]; exact this⟩
  | @ite d x y z hx hy hz i j k =>
    have a : Ok 0 (.ite x y z) (core (.ite x y z)) (d + 1) (d + 1) := by
      rw [core]
      exact (Ok.ite ((i (by omega)).1.down (Nat.zero_le _)) ((j (by omega)).1.down (Nat.zero_le _)) ((k (by omega)).1.down (Nat.zero_le _)) (by have := hx.hgt; omega) (by have := hy.hgt; omega) (by have := hz.hgt; omega)).more (by omega) (Nat.le_refl _)
    exact ⟨a, by have := OkS.one a; rw [core] at this; rw [rest]; exact this⟩
  | @set d x t h k ht i =>
    have a : Ok 0 (.set x t) (core (.set x t)) (d + 1) (d + 1) := by
      rw [core]
      exact (Ok.set 1 1 h ((i (by omega)).1.down (Nat.zero_le _)) (by have := ht.hgt; omega)).more (by omega) (Nat.le_refl _)
    exact ⟨a, by have := OkS.one a; rw [core] at this; rw [rest]; exact this⟩
  | @seq d x y hx hy i j =>
    have s : OkS (.seq x y) (core x ++ ([59, 32] ++ rest y)) d d := OkS.cons 1 ((i (by omega)).1.down (Nat.zero_le _)) (j (by omega)).2 (by have := hx.hgt; omega) (by have := hy.hgt; omega)
    refine ⟨?_, ?_⟩
    · rw [core]
      exact (s.par 0).more (Nat.le_refl _) (by omega)
    · rw [rest]
      obtain ⟨l, h1, h2, h3⟩ := s
      exact ⟨l, h1, fun x hx => (h2 x hx).more (by omega) (by omega), h3⟩
  | @op d c x y hc hx hy i j =>
    have a : Ok (lvlO c) (.op c x y) (core (.op c x y)) (d + 1) (d + 1) := by
      rw [core]
      exact (Ok.op 1 1 hc (ok_par (i (by omega)).1 (lL_le c).1) (ok_par (j (by omega)).1 (lL_le c).2) (by have := hx.hgt; omega) (by have := hy.hgt; omega)).more (Nat.le_refl _) (by omega)
    exact ⟨a, by have := OkS.one (a.down (Nat.zero_le _)); rw [core] at this; rw [rest]; exact this⟩
/-- how long it is -/
def most : Nat → Nat
  | 0 => 14
  | d + 1 => 3 * most d + 20
theorem core_len {d t} (h : Dr d t) : (core t).length ≤ most d ∧ (rest t).length ≤ most d := by
  have m0 : ∀ d, 14 ≤ most d := fun d => by cases d <;> (unfold most; omega)
  have ip : ∀ b l, (inPar b l).length ≤ l.length + 2 := fun b l => by unfold inPar; split <;> simp
  have eI : (code "if ").length = 3 := by decide +kernel
  have eT : (code " then ").length = 6 := by decide +kernel
  have eE : (code " else ").length = 6 := by decide +kernel
  have eS : (code "set ").length = 4 := by decide +kernel
  induction h with
  | @num d n h => rw [rest, core]; have := (numT_dig h).2.1; have := m0 d; omega
  | @str d l h k => rw [rest, core]; have := m0 d; simp; omega
  | @name d l h k => rw [rest, core]; have := m0 d; omega
  | @call d f as h k l hs ih =>
    have q : ∀ {as : List Tr}, (∀ t ∈ as, (core t).length ≤ most d) → (coreM as).length ≤ as.length * (most d + 2) := fun {as} => by
      induction as with
      | nil => intro _; rw [coreM]; simp
      | cons t as i =>
        intro hh
        rw [coreM]
        have h1 := hh t (by simp)
        have h2 := i fun x hx => hh x (List.mem_cons_of_mem _ hx)
        have e : (t :: as).length * (most d + 2) = as.length * (most d + 2) + (most d + 2) := by rw [List.length_cons, Nat.add_mul, Nat.one_mul]
        simp only [List.length_append, List.length_cons, List.length_nil] at h1 h2 e ⊢
        omega
    have h3 : (coreL as).length ≤ 3 * (most d + 2) := by
      cases as with
      | nil => rw [coreL]; simp
      | cons t as =>
        rw [coreL, List.length_append]
        have h1 := (ih t (by simp)).1
        have h2 := q (as := as) fun x hx => (ih x (List.mem_cons_of_mem _ hx)).1
        have h4 : as.length ≤ 2 := by simpa using l
        have h5 : as.length * (most d + 2) ≤ 2 * (most d + 2) := Nat.mul_le_mul_right _ h4
        omega
    have a : (core (.call f as)).length ≤ most (d + 1) := by
      rw [core, most]
      simp only [List.length_append, List.length_cons, List.length_nil]
      omega
    refine ⟨a, ?_⟩
    rw [core] at a
    rw [rest]
    exact a
  | @ite d x y z hx hy hz i j k =>
    rw [rest, core, most]
    simp only [List.length_append]
    omega
  | @set d x t h k ht i =>
    rw [rest, core, most]
    simp only [List.length_append, List.length_cons, List.length_nil]
    omega
  | @seq d x y hx hy i j =>
    rw [rest, core, most]
    simp only [List.length_append, List.length_cons, List.length_nil]
    omega
  | @op d c x y hc hx hy i j =>
    rw [rest, core, most]
    have := ip (decide (lvl x < lL c)) (core x)
    have := ip (decide (lvl y < lR c)) (core y)
    simp only [List.length_append, List.length_cons, List.length_nil]
    omega
end K2

set_option maxRecDepth 100000
set_option maxHeartbeats 4000000
namespace K1
open PySem PySem.Spec PyProof.Rows L2 GD
/-! ### the text -/
def topS (i : Nat) : Stmt := PySem.Challenge.pw_sameasnew_k06_first_fault_of_names.main.body.getD i (.Pass ⟨0, 0, 0, 0⟩)
abbrev sCell : Stmt := topS 16
abbrev sDigits : Stmt := topS 17
abbrev sDraw : Stmt := topS 18
abbrev sAlike : Stmt := topS 37
/-- what the top leaves to the built-ins -/
structure Txt (K : PySem.W.Frag) (mg : Str → Option Value) : Prop where
  len : mg "len" = none
  range : mg "range" = none
  bint : mg "int" = none
  blist : mg "list" = none
  repr : mg "repr" = none
def Box (H : Hp) (b d : Addr) (ds : List Int) (at_ : Nat) : Prop :=
  H b = some (.lst [.ref d, .int at_]) ∧ H d = some (.lst (ds.map V.int)) ∧ ds.length ≤ 4000
theorem Box.ne {H : Hp} {b d : Addr} {ds : List Int} {at_ : Nat} (h : Box H b d ds at_) : d ≠ b := fun e => by
  obtain ⟨h1, h2, _⟩ := h
  rw [e, h1] at h2
  have q : [V.ref d, V.int at_] = ds.map V.int := by
    have := Option.some.inj h2
    injection this
  cases ds with
  | nil => cases q
  | cons x r => cases q
section
variable {P : Program} {w : World} {K : PySem.W.Frag} {mg : Str → Option Value} {base : Heap}
def spCell (K : PySem.W.Frag) : Sp := fun vs H Q _ => ∃ (a : Addr) (ns : List Int) (k : Nat), vs = [.ref a, .int k] ∧ SqL K H a (ns.map V.int) ∧ ∀ v : Int, Q (.int v) H
theorem scCell : FnScope ["script", "k"] ["script", "k"] (defScope sCell) := ⟨rfl, rfl, rfl, by decide +kernel, rfl, by decide +kernel, by decide +kernel⟩
theorem ok_cell {f : Addr} {fd : FuncData} (F : Fun K "_law_cell" "_law_cell" sCell f fd) (T : Txt K mg) : FnOk P w K mg base CX0 1 f fd ["script", "k"] (spCell K) := by
  have sc := scCell
  refine F.ok sc (fun vs H Q E h => ?_) (fun cdv A outer s H vs Q E hr h => ?_)
  · obtain ⟨a, ns, k, rfl, _⟩ := h
    rfl
  · obtain ⟨a, ns, k, rfl, hS, q⟩ := h
    refine ⟨_, (pss_cons (ps_if (pt_cmpR op_lt (pv 1) (pe_callB call_len_seq (by rfl) T.len (by decide +kernel) (pa_cons (pv 0) pa_nil)) (nomark _))
      (pss_one (ps_ret (pe_ix ix_list (pv 0) (pv 1) (fun _ _ => rfl)))) pss_nil)
      (pss_one (ps_ret pe_int))), ?_⟩
    refine ⟨_, rfl, _, rfl, a, _, rfl, .inl hS, _, _, rfl, rfl, _, rfl, ite2 (fun e => ?_) (fun e => ?_)⟩
    · have hk : k < ns.length := by
        have := of_decide_eq_true e
        rw [List.length_map] at this
        omega
      exact ⟨_, rfl, _, rfl, a, _, _, .int ns[k], rfl, rfl, hS, atI_nat (by rw [List.getElem?_map, List.getElem?_eq_getElem hk]; rfl), q _⟩
    · exact q 0
def spDraw : Sp := fun vs H Q _ => ∃ (b d : Addr) (ds : List Int) (at_ : Nat) (m : Int), vs = [.ref b, .int m] ∧ Box H b d ds at_ ∧ 0 < m ∧
  ∀ r : Int, 0 ≤ r → r < m → Q (.int r) (upd H b (.lst [.ref d, .int ((at_ + 1 : Nat) : Int)]))
theorem scDraw : FnScope ["box", "many", "at"] ["box", "many"] (defScope sDraw) := ⟨rfl, rfl, rfl, by decide +kernel, rfl, by decide +kernel, by decide +kernel⟩
theorem ok_draw {f : Addr} {fd : FuncData} (F : Fun K "_law_draw" "_law_draw" sDraw f fd) (T : Txt K mg) : FnOk P w K mg base CX0 1 f fd ["box", "many"] spDraw := by
  have sc := scDraw
  refine F.ok sc (fun vs H Q E h => ?_) (fun cdv A outer s H vs Q E hr h => ?_)
  · obtain ⟨b, d, ds, at_, m, rfl, _⟩ := h
    rfl
  · obtain ⟨b, d, ds, at_, m, rfl, hB, hm, q⟩ := h
    refine ⟨_, (pss_cons (ps_set (i := 2) sc.nd rfl (.inl rfl) (pe_ix ix_list (pv 0) pe_int (fun _ _ => rfl)))
      (pss_cons (ps_asg (pe_op op_add (pv 2) pe_int) (pg_sub (pv 0) pe_int set_list))
      (pss_cons (ps_if (pt_cmpR op_lt (pv 2) (pe_callB call_len_seq (by rfl) T.len (by decide +kernel) (pa_cons (pe_ix ix_list (pv 0) pe_int (fun _ _ => rfl)) pa_nil)) (nomark _))
      (pss_one (ps_ret (pe_op op_mod (pe_callTy call_int1 (by rfl) T.bint (by decide +kernel) (pa_cons (pe_ix ix_list (pe_ix ix_list (pv 0) pe_int (fun _ _ => rfl)) (pv 2) (fun _ _ => rfl)) pa_nil)) (pv 1)))) pss_nil)
      (pss_one (ps_ret (pe_op op_mod (pe_callTy call_int1 (by rfl) T.bint (by decide +kernel) (pa_cons (pe_op op_add (pe_op op_mul (pv 2) pe_int) pe_int) pa_nil)) (pv 1))))))), ?_⟩
    obtain ⟨h1, h2, h3⟩ := hB
    have nd : d ≠ b := Box.ne ⟨h1, h2, h3⟩
    refine ⟨_, rfl, b, _, 1, .int at_, rfl, rfl, SqL.of h1, atI_nat (j := 1) rfl, ?_⟩
    refine ⟨_, rfl, _, _, rfl, rfl, _, rfl, b, _, 1, 1, rfl, rfl, h1, rfl, ?_⟩
    have e1 : upd H b (.lst ([V.ref d, V.int at_].set 1 (.int ((at_ : Int) + 1)))) b = some (.lst [.ref d, .int ((at_ + 1 : Nat) : Int)]) := upd_same
    have e2 : upd H b (.lst ([V.ref d, V.int at_].set 1 (.int ((at_ : Int) + 1)))) d = some (.lst (ds.map V.int)) := by rw [upd_ne nd]; exact h2
    refine ⟨_, rfl, _, rfl, b, _, 0, .ref d, rfl, rfl, SqL.of e1, atI_nat (j := 0) rfl, d, _, rfl, .inl (SqL.of e2), _, _, rfl, rfl, _, rfl, ite2 (fun e => ?_) (fun e => ?_)⟩
    · have hk : at_ < ds.length := by
        have := of_decide_eq_true e
        rw [List.length_map] at this
        omega
      refine ⟨_, rfl, b, _, 0, .ref d, rfl, rfl, SqL.of e1, atI_nat (j := 0) rfl, _, rfl, d, _, _, .int ds[at_], rfl, rfl, SqL.of e2, atI_nat (by rw [List.getElem?_map, List.getElem?_eq_getElem hk]; rfl), .inl ⟨_, rfl, ?_⟩⟩
      exact ⟨_, rfl, _, _, rfl, rfl, hm, q _ (Int.emod_nonneg _ (by omega)) (Int.emod_lt_of_pos _ hm)⟩
    · refine ⟨_, rfl, _, _, rfl, rfl, .inr (by decide), _, _, rfl, rfl, .inl ⟨_, rfl, ?_⟩⟩
      exact ⟨_, rfl, _, _, rfl, rfl, hm, q _ (Int.emod_nonneg _ (by omega)) (Int.emod_lt_of_pos _ hm)⟩
def spAlike (K : PySem.W.Frag) : Sp := fun vs H Q _ => ∃ (x y : V) (d : PyData), vs = [x, y] ∧ Dp K H x d ∧ Dp K H y d ∧ d ≠ .none ∧ d.showable = true ∧ d.hasDict = false ∧ d.depth ≤ 60 ∧ d.shown.length ≤ sizeLine ∧ Q (.bl true) H
theorem scAlike : FnScope ["one", "two"] ["one", "two"] (defScope sAlike) := ⟨rfl, rfl, rfl, by decide +kernel, rfl, by decide +kernel, by decide +kernel⟩
theorem ok_alike {f : Addr} {fd : FuncData} (F : Fun K "_law_alike" "_law_alike" sAlike f fd) (T : Txt K mg) : FnG P w K mg base CX0 1 f fd ["one", "two"] (spAlike K) := by
  have sc := scAlike
  refine okG F sc (fun vs H Q E h => ?_) (fun cdv A outer s H vs Q E hgd hr h => ?_)
  · obtain ⟨x, y, d, rfl, _⟩ := h
    rfl
  · obtain ⟨x, y, d, rfl, hx, hy, h1, h2, h3, h4, h5, q⟩ := h
    refine ⟨_, (pss_one (ps_ret (pe_cmpR op_eq (pe_callB (cr_repr hgd hr.units) (by rfl) T.repr (by decide +kernel) (pa_cons (pv 0) pa_nil)) (pe_callB (cr_repr hgd hr.units) (by rfl) T.repr (by decide +kernel) (pa_cons (pv 1) pa_nil)) (nomark _)))), ?_⟩
    refine ⟨_, rfl, x, d, rfl, hx, h1, h2, h3, h4, h5, _, rfl, y, d, rfl, hy, h1, h2, h3, h4, h5, rfl, ?_⟩
    rw [decide_eq_true rfl]
    exact q
end
end K1

set_option maxRecDepth 100000
set_option maxHeartbeats 4000000
namespace K1
open PySem PySem.Spec PyProof.Rows L2 GD
section
variable {P : Program} {w : World} {K : PySem.W.Frag} {mg : Str → Option Value} {base : Heap}

theorem snoc_ints (ds : List Int) (x : Int) : ds.map V.int ++ [V.int x] = (ds ++ [x]).map V.int := by rw [List.map_append]; rfl
theorem Same.lst {H H1 : Hp} {D : Addr} {o : HO} (s : Same H H1) (n : H D = none) : Same H (upd H1 D o) := fun b u e => by
  rw [upd_ne (ne_of_none e n)]
  exact s b u e

def spDigits (K : PySem.W.Frag) : Sp := fun vs H Q _ => ∃ (a : Addr) (ns : List Int), vs = [.ref a, .int 0, .int 63] ∧ SqL K H a (ns.map V.int) ∧
  ∀ (H' : Hp) (D : Addr) (ds : List Int), Same H H' → H D = none → H' D = some (.lst (ds.map V.int)) → ds.length ≤ 4000 → Q (.ref D) H'
theorem scDigits : FnScope ["script", "first", "last", "digits", "k", "cell", "turn", "seed"] ["script", "first", "last"] (defScope sDigits) := ⟨rfl, rfl, rfl, by decide +kernel, rfl, by decide +kernel, by decide +kernel⟩
theorem ok_digits {f fc : Addr} {fd fdc : FuncData} (F : Fun K "_law_digits" "_law_digits" sDigits f fd) (T : Txt K mg) (FC : FnOk P w K mg base CX0 1 fc fdc ["script", "k"] (spCell K))
    (mc : mg "_law_cell" = some (.ref fc)) (kc : PySem.W.keepIn K (.ref fc) = true) (bc : Binds K fdc ["script", "k"] []) : FnOk P w K mg base CX0 2 f fd ["script", "first", "last"] (spDigits K) := by
  have sc := scDigits
  refine F.ok sc (fun vs H Q E h => ?_) (fun cdv A outer s H vs Q E hr h => ?_)
  · obtain ⟨a, ns, rfl, _⟩ := h
    rfl
  · obtain ⟨a, ns, rfl, hS, q⟩ := h
    refine ⟨_, (pss_cons (ps_set (i := 3) sc.nd rfl (.inl rfl) (pe_lst pa_nil))
(pss_cons (ps_for PassesOwn.never rfl (pi_range2 rfl T.range (pa_cons (pv 1) (pa_cons (pv 2) pa_nil))) (pg_name (i := 4) sc.nd rfl (.inl rfl))
(pss_cons (ps_set (i := 5) sc.nd rfl (.inl rfl) (pe_call FC hr (by rfl) mc kc bc .nil pass0 (pa_cons (pv 0) (pa_cons (pv 4) pa_nil))))
(C8.pss_cut (ps_if (pt_cmpR op_lt (pv 5) pe_int (nomark _))
(pss_one (ps_set (i := 5) sc.nd rfl (.inl rfl) (pe_op op_sub pe_int (pe_op op_mul pe_int (pv 5))))) pss_nil)
(pss_one (ps_if (pt_cmpR op_ge (pv 5) pe_int (nomark _))
(pss_one (ps_for PassesOwn.never rfl (pi_range1 rfl T.range (pa_cons pe_int pa_nil)) (pg_name (i := 6) sc.nd rfl (.inl rfl))
(pss_one (ps_if (pt_cmpR op_gt (pv 5) pe_int (nomark _))
(pss_cons (ps_expr (pe_bm PySem.F.plainAttrs_list PySem.F.slot_list_append PySem.F.type_list_append mt_append (pv 3) (pa_cons (pe_op op_mod (pe_callTy call_int1 (by rfl) T.bint (by decide +kernel) (pa_cons (pv 5) pa_nil)) pe_int) pa_nil)))
(pss_one (ps_set (i := 5) sc.nd rfl (.inl rfl) (pe_op op_fdiv (pv 5) pe_int)))) pss_nil)))) (pss_cons (ps_set (i := 7) sc.nd rfl (.inl rfl) (pe_op op_mod (pe_callTy call_int1 (by rfl) T.bint (by decide +kernel) (pa_cons (pe_op op_add (pe_op op_add (pe_op op_mul (pv 5) pe_int) (pe_op op_mul (pv 4) pe_int)) pe_int) pa_nil)) pe_int))
(pss_one (ps_for PassesOwn.never rfl (pi_range1 rfl T.range (pa_cons pe_int pa_nil)) (pg_name (i := 6) sc.nd rfl (.inl rfl))
(pss_cons (ps_set (i := 7) sc.nd rfl (.inl rfl) (pe_op op_mod (pe_callTy call_int1 (by rfl) T.bint (by decide +kernel) (pa_cons (pe_op op_add (pe_op op_add (pe_op op_mul (pv 7) pe_int) (pe_op op_mul pe_int (pv 6))) pe_int) pa_nil)) pe_int))
(pss_one (ps_expr (pe_bm PySem.F.plainAttrs_list PySem.F.slot_list_append PySem.F.type_list_append mt_append (pv 3) (pa_cons (pe_op op_mod (pe_callTy call_int1 (by rfl) T.bint (by decide +kernel) (pa_cons (pe_op op_fdiv (pv 7) pe_int) pa_nil)) pe_int) pa_nil)))))))))))))
(pss_one (ps_ret (pv 3))))), ?_⟩
    refine ⟨Nat.zero_le _, fun D hD => ?_⟩
    refine ⟨_, rfl, _, rfl, 0, 63, rfl, ⟨by decide, by decide, by decide, by decide⟩, for_range (lo := 0) (n := 63) (fun i σ H' => ∃ (ds : List Int) (y4 y5 y6 y7 : Option V), σ = [some (.ref a), some (.int 0), some (.int 63), some (.ref D), y4, y5, y6, y7] ∧ Same H H' ∧ H' D = some (.lst (ds.map V.int)) ∧ ds.length ≤ 60 * i)
      ⟨[], none, none, none, none, rfl, Same.lst (Same.refl H) hD, upd_same, Nat.zero_le _⟩ ?_ ?_⟩
    · rintro i σ H1 hi ⟨ds, y4, y5, y6, y7, rfl, s1, e1, l1⟩
      refine ⟨_, rfl, _, rfl, a, ns, i, by rw [Int.zero_add]; rfl, s1.seq hS, fun c => ?_⟩
      refine ⟨fun σ' H' => ∃ c : Int, σ' = [some (.ref a), some (.int 0), some (.int 63), some (.ref D), some (.int (0 + (i : Nat))), some (.int c), y6, y7] ∧ H' = H1, ⟨_, rfl, _, _, rfl, rfl, _, rfl, ite2 (fun _ => ?_) (fun _ => ?_)⟩, ?_⟩
      · exact ⟨_, rfl, _, _, rfl, rfl, .inl (by decide), _, _, rfl, rfl, _, rfl, rfl⟩
      · exact ⟨_, rfl, rfl⟩
      · rintro σ' H' ⟨c, rfl, rfl⟩
        have big : ∀ {n : Nat}, n ≤ 5000 → n < sizeLine := fun h => Nat.lt_of_le_of_lt h (by decide)
        refine ⟨_, rfl, _, _, rfl, rfl, _, rfl, ite2 (fun _ => ?_) (fun _ => ?_)⟩
        · refine ⟨_, rfl, by decide, by decide, for_range (lo := 0) (n := 60) (fun j σ H' => ∃ (ds2 : List Int) (c2 : Int) (y6 : Option V), σ = [some (.ref a), some (.int 0), some (.int 63), some (.ref D), some (.int (0 + (i : Nat))), some (.int c2), y6, y7] ∧ Same H H' ∧ H' D = some (.lst (ds2.map V.int)) ∧ ds2.length ≤ 60 * i + j)
            ⟨ds, c, y6, rfl, s1, e1, l1⟩ ?_ ?_⟩
          · rintro j σ H2 hj ⟨ds2, c2, y6, rfl, s2, e2, l2⟩
            refine ⟨_, rfl, _, _, rfl, rfl, _, rfl, ite2 (fun _ => ?_) (fun _ => ?_)⟩
            · refine ⟨_, rfl, .inl ⟨rfl, _, SqL.of e2⟩, _, rfl, .inl ⟨_, rfl, _, _, rfl, rfl, (by show (0 : Int) < 1000; decide), D, _, _, rfl, rfl, e2, ?_, ?_⟩⟩
              · rw [List.length_map]
                exact big (by omega)
              · refine ⟨_, rfl, _, _, rfl, rfl, ⟨by decide, by decide⟩, ds2 ++ [c2 % 1000], _, _, rfl, Same.lst s2 hD, ?_, ?_⟩
                · rw [upd_same, snoc_ints]
                · rw [List.length_append, List.length_singleton]
                  omega
            · exact ⟨ds2, c2, _, rfl, s2, e2, by omega⟩
          · rintro σ H2 ⟨ds2, c2, y6, rfl, s2, e2, l2⟩
            exact ⟨ds2, _, _, _, _, rfl, s2, e2, by omega⟩
        · refine ⟨_, rfl, _, _, rfl, rfl, .inr (by decide), _, rfl, _, _, rfl, rfl, .inr (by decide), _, _, rfl, rfl, _, _, rfl, rfl, .inl ⟨_, rfl, _, _, rfl, rfl, (by show (0 : Int) < 2147483399; decide), ?_⟩⟩
          refine ⟨_, rfl, by decide, by decide, for_range (lo := 0) (n := 12) (fun j σ H' => ∃ (ds2 : List Int) (c2 : Int) (y6 : Option V), σ = [some (.ref a), some (.int 0), some (.int 63), some (.ref D), some (.int (0 + (i : Nat))), some (.int c), y6, some (.int c2)] ∧ Same H H' ∧ H' D = some (.lst (ds2.map V.int)) ∧ ds2.length ≤ 60 * i + j)
            ⟨ds, _, y6, rfl, s1, e1, l1⟩ ?_ ?_⟩
          · rintro j σ H2 hj ⟨ds2, c2, y6, rfl, s2, e2, l2⟩
            refine ⟨_, rfl, _, _, rfl, rfl, .inr (by decide), _, rfl, _, _, rfl, rfl, .inl (by decide), _, _, rfl, rfl, _, _, rfl, rfl, .inl ⟨_, rfl, _, _, rfl, rfl, (by show (0 : Int) < 2147483563; decide), ?_⟩⟩
            refine ⟨_, rfl, .inl ⟨rfl, _, SqL.of e2⟩, _, rfl, _, _, rfl, rfl, ⟨by decide, by decide⟩, .inl ⟨_, rfl, _, _, rfl, rfl, (by show (0 : Int) < 1000; decide), D, _, _, rfl, rfl, e2, ?_, ?_⟩⟩
            · rw [List.length_map]
              exact big (by omega)
            · refine ⟨ds2 ++ [(c2 * 40014 + 5 * (0 + (j : Nat)) + 3) % 2147483563 / 1009 % 1000], _, _, rfl, Same.lst s2 hD, ?_, ?_⟩
              all_goals try dsimp only
              · rw [upd_same, snoc_ints]
              · rw [List.length_append, List.length_singleton]
                omega
          · rintro σ H2 ⟨ds2, c2, y6, rfl, s2, e2, l2⟩
            exact ⟨ds2, _, _, _, _, rfl, s2, e2, by omega⟩
    · rintro σ H1 ⟨ds, y4, y5, y6, y7, rfl, s1, e1, l1⟩
      exact ⟨_, rfl, q H1 D ds s1 hD e1 (by omega)⟩
end
end K1

set_option maxRecDepth 100000
set_option maxHeartbeats 4000000
namespace K1
open PySem PySem.Spec PyProof.Rows L2 GD
/-! ### the box -/
def Bx (b : Addr) (H H' : Hp) : Prop := ∀ c o, c ≠ b → H c = some o → H' c = some o
theorem Bx.refl (b : Addr) (H : Hp) : Bx b H H := fun _ _ _ h => h
theorem Bx.trans {b : Addr} {H H1 H2 : Hp} (x : Bx b H H1) (y : Bx b H1 H2) : Bx b H H2 := fun c o n h => y c o n (x c o n h)
theorem Bx.same {b : Addr} {H H' : Hp} (s : Same H H') : Bx b H H' := fun c o _ h => s c o h
theorem Box.draw {H : Hp} {b d : Addr} {ds : List Int} {n : Nat} (x : Box H b d ds n) : Box (upd H b (.lst [.ref d, .int ((n + 1 : Nat) : Int)])) b d ds (n + 1) :=
  ⟨upd_same, by rw [upd_ne x.ne]; exact x.2.1, x.2.2⟩
theorem Bx.draw {H : Hp} {b : Addr} {o : HO} : Bx b H (upd H b o) := fun c u n h => by rw [upd_ne n]; exact h
theorem Box.new {H : Hp} {b d l : Addr} {ds : List Int} {n : Nat} {o : HO} (x : Box H b d ds n) (h : H l = none) : Box (upd H l o) b d ds n :=
  ⟨by rw [upd_ne (ne_of_none x.1 h)]; exact x.1, by rw [upd_ne (ne_of_none x.2.1 h)]; exact x.2.1, x.2.2⟩
theorem Bx.new {H : Hp} {b l : Addr} {o : HO} (h : H l = none) : Bx b H (upd H l o) := Bx.same (Same.lst (Same.refl H) h)
theorem Bx.free {b c d : Addr} {H H' : Hp} {ds : List Int} {n : Nat} (x : Bx b H H') (y : Box H b d ds n) (y' : Box H' b d ds n ∨ H' b ≠ none) (h : H' c = none) : H c = none := by
  cases e : H c with
  | none => rfl
  | some o =>
    by_cases z : c = b
    · subst z
      rcases y' with y' | y'
      · rw [y'.1] at h
        cases h
      · exact absurd h y'
    · rw [x c o z e] at h
      cases h

/-- draws and new objects -/
structure Bs (b d : Addr) (ds : List Int) (H H' : Hp) (n : Nat) : Prop where
  bx : Bx b H H'
  box : Box H' b d ds n
  free : ∀ c, H' c = none → H c = none
theorem Bs.refl {b d : Addr} {ds : List Int} {H : Hp} {n : Nat} (h : Box H b d ds n) : Bs b d ds H H n := ⟨Bx.refl _ _, h, fun _ z => z⟩
theorem Bs.draw {b d : Addr} {ds : List Int} {H H' : Hp} {n : Nat} (h : Bs b d ds H H' n) : Bs b d ds H (upd H' b (.lst [.ref d, .int ((n + 1 : Nat) : Int)])) (n + 1) :=
  ⟨h.bx.trans Bx.draw, h.box.draw, fun c z => h.free c (by
    by_cases e : c = b
    · rw [e, upd_same] at z
      cases z
    · rw [upd_ne e] at z
      exact z)⟩
theorem Bs.new {b d l : Addr} {ds : List Int} {H H' : Hp} {n : Nat} {o : HO} (h : Bs b d ds H H' n) (nl : H' l = none) : Bs b d ds H (upd H' l o) n :=
  ⟨h.bx.trans (Bx.new nl), h.box.new nl, fun c z => h.free c (by
    by_cases e : c = l
    · rw [e]
      exact nl
    · rw [upd_ne e] at z
      exact z)⟩
theorem Bs.trans {b d : Addr} {ds : List Int} {H H1 H2 : Hp} {n m : Nat} (x : Bs b d ds H H1 n) (y : Bs b d ds H1 H2 m) : Bs b d ds H H2 m :=
  ⟨x.bx.trans y.bx, y.box, fun c z => x.free c (y.free c z)⟩
theorem Bs.nb {b d l : Addr} {ds : List Int} {H H' : Hp} {n : Nat} (h : Bs b d ds H H' n) (nl : H' l = none) : l ≠ b := fun z => by rw [z, h.box.1] at nl; cases nl
theorem idx {m : Nat} {r : Int} (h0 : 0 ≤ r) (h1 : r < (m : Int)) : ∃ j : Nat, r = (j : Int) ∧ j < m := ⟨r.toNat, by omega, by omega⟩
theorem le9 {n : Nat} (h : n ≤ 100) : n ≤ sizeLine := Nat.le_trans h (by decide)
end K1

set_option maxRecDepth 100000
set_option maxHeartbeats 4000000
namespace K1
open PySem PySem.Spec PyProof.Rows L2 GD
theorem smallL {n : Nat} (h : n ≤ 5000) : n ≤ sizeLine := Nat.le_trans h (by decide)
theorem two_le : 2 ≤ sizeLine := by decide
theorem dig_range {c : Nat} (h : c ∈ DIG) : 48 ≤ c ∧ c ≤ 57 := by
  have : ∀ c ∈ DIG, 48 ≤ c ∧ c ≤ 57 := by decide
  exact this c h
theorem val_lt : ∀ (ds : List Nat) (acc : Nat), (∀ c ∈ ds, c ∈ DIG) → ds.foldl (fun acc c => acc * 10 + (c - 48)) acc < (acc + 1) * 10 ^ ds.length
  | [], acc, _ => by simp
  | c :: r, acc, h => by
    have hc := dig_range (h c List.mem_cons_self)
    have ih := val_lt r (acc * 10 + (c - 48)) (fun d hd => h d (List.mem_cons_of_mem _ hd))
    rw [List.foldl_cons, List.length_cons, Nat.pow_succ]
    refine Nat.lt_of_lt_of_le ih ?_
    rw [Nat.mul_comm (10 ^ r.length) 10, ← Nat.mul_assoc]
    exact Nat.mul_le_mul_right _ (by omega)
theorem val_small {ds : List Nat} (h : ∀ c ∈ ds, c ∈ DIG) (hl : ds.length ≤ 5) : val ds < 100000 := by
  have q := val_lt ds 0 h
  have e : 10 ^ ds.length ≤ 10 ^ 5 := Nat.pow_le_pow_right (by decide) hl
  unfold val
  omega
theorem log_small {n : Nat} (h : n < 100000) : ((n : Nat) : Int).natAbs.log2 < 1920 := by
  rw [Int.natAbs_natCast]
  by_cases h0 : n = 0
  · rw [h0]
    decide
  · have := (Nat.log2_lt (k := 1920) h0).mpr (Nat.lt_of_lt_of_le h (by
      have : 100000 ≤ 2 ^ 17 := by decide
      exact Nat.le_trans this (Nat.pow_le_pow_right (by decide) (by decide))))
    exact this
end K1
namespace K3
open PySem hiding Tok code
open PySem.Spec PyProof.Rows GD K1
open L2 hiding rest
open K2 hiding Sp P
mutual
def TV (H : Hp) : Tr → V → Prop
  | .num n, v => ∃ q, v = .ref q ∧ H q = some (.tup [.str "number", .int (n : Nat)])
  | .str l, v => ∃ q, v = .ref q ∧ H q = some (.tup [.str "string", .str (S l)])
  | .name l, v => ∃ q, v = .ref q ∧ H q = some (.tup [.str "name", .str (S l)])
  | .call f as, v => ∃ q a vs, v = .ref q ∧ H q = some (.tup [.str "call", .str (S f), .ref a]) ∧ H a = some (.tup vs) ∧ TVs H as vs ∧ as.length ≤ 5000
  | .ite x y z, v => ∃ q a b c, v = .ref q ∧ H q = some (.tup [.str "if", a, b, c]) ∧ TV H x a ∧ TV H y b ∧ TV H z c
  | .set x t, v => ∃ q a, v = .ref q ∧ H q = some (.tup [.str "set", .str (S x), a]) ∧ TV H t a
  | .seq x y, v => ∃ q a b, v = .ref q ∧ H q = some (.tup [.str "then", a, b]) ∧ TV H x a ∧ TV H y b
  | .op c x y, v => ∃ q a b, v = .ref q ∧ H q = some (.tup [.str (S [c]), a, b]) ∧ TV H x a ∧ TV H y b ∧ c ∈ [42, 43, 45, 60, 61]
def TVs (H : Hp) : List Tr → List V → Prop
  | [], vs => vs = []
  | t :: ts, vs => ∃ v r, vs = v :: r ∧ TV H t v ∧ TVs H ts r
end
mutual
theorem TV.imp {H H' : Hp} (k : ∀ q xs, H q = some (.tup xs) → H' q = some (.tup xs)) : ∀ (t : Tr) (v : V), TV H t v → TV H' t v
  | .num n, v, h => by
    rw [TV] at h ⊢
    obtain ⟨q, e, h⟩ := h
    exact ⟨q, e, k _ _ h⟩
  | .str n, v, h => by
    rw [TV] at h ⊢
    obtain ⟨q, e, h⟩ := h
    exact ⟨q, e, k _ _ h⟩
  | .name n, v, h => by
    rw [TV] at h ⊢
    obtain ⟨q, e, h⟩ := h
    exact ⟨q, e, k _ _ h⟩
  | .call f as, v, h => by
    rw [TV] at h ⊢
    obtain ⟨q, a, vs, e, h1, h2, h3, h4⟩ := h
    exact ⟨q, a, vs, e, k _ _ h1, k _ _ h2, TVs.imp k as vs h3, h4⟩
  | .ite x y z, v, h => by
    rw [TV] at h ⊢
    obtain ⟨q, a, b, c, e, h1, h2, h3, h4⟩ := h
    exact ⟨q, a, b, c, e, k _ _ h1, TV.imp k x a h2, TV.imp k y b h3, TV.imp k z c h4⟩
  | .set x t, v, h => by
    rw [TV] at h ⊢
    obtain ⟨q, a, e, h1, h2⟩ := h
    exact ⟨q, a, e, k _ _ h1, TV.imp k t a h2⟩
  | .seq x y, v, h => by
    rw [TV] at h ⊢
    obtain ⟨q, a, b, e, h1, h2, h3⟩ := h
    exact ⟨q, a, b, e, k _ _ h1, TV.imp k x a h2, TV.imp k y b h3⟩
  | .op c x y, v, h => by
    rw [TV] at h ⊢
    obtain ⟨q, a, b, e, h1, h2, h3, h4⟩ := h
    exact ⟨q, a, b, e, k _ _ h1, TV.imp k x a h2, TV.imp k y b h3, h4⟩
theorem TVs.imp {H H' : Hp} (k : ∀ q xs, H q = some (.tup xs) → H' q = some (.tup xs)) : ∀ (ts : List Tr) (vs : List V), TVs H ts vs → TVs H' ts vs
  | [], vs, h => by
    rw [TVs] at h ⊢
    exact h
  | t :: ts, vs, h => by
    rw [TVs] at h ⊢
    obtain ⟨v, r, e, h1, h2⟩ := h
    exact ⟨v, r, e, TV.imp k t v h1, TVs.imp k ts r h2⟩
end
theorem three_le : 3 ≤ sizeLine := by decide
theorem newtup {H : Hp} {x : Addr} {o : HO} (nx : H x = none) : ∀ q xs, H q = some (.tup xs) → upd H x o q = some (.tup xs) := fun q xs hq => by rw [upd_ne (ne_of_none hq nx)]; exact hq
theorem TVs.snoc {H : Hp} {t : Tr} {v : V} (h : TV H t v) : ∀ {ts : List Tr} {vs : List V}, TVs H ts vs → TVs H (ts ++ [t]) (vs ++ [v])
  | [], vs, k => by
    rw [TVs] at k
    rw [k]
    show TVs H (t :: []) [v]
    rw [TVs]
    exact ⟨v, [], rfl, h, by rw [TVs]⟩
  | u :: ts, vs, k => by
    rw [TVs] at k
    obtain ⟨x, r, e, k1, k2⟩ := k
    rw [e]
    show TVs H (u :: (ts ++ [t])) (x :: (r ++ [v]))
    rw [TVs]
    exact ⟨x, _, rfl, k1, TVs.snoc h k2⟩
theorem TVs.len {H : Hp} : ∀ {ts : List Tr} {vs : List V}, TVs H ts vs → vs.length = ts.length
  | [], vs, k => by rw [TVs] at k; rw [k]; rfl
  | u :: ts, vs, k => by
    rw [TVs] at k
    obtain ⟨x, r, e, k1, k2⟩ := k
    rw [e, List.length_cons, List.length_cons, TVs.len k2]
theorem TVs.get {H : Hp} {x : V} : ∀ {ts : List Tr} {vs : List V} {i : Nat}, TVs H ts vs → vs[i]? = some x → ∃ t, ts[i]? = some t ∧ TV H t x
  | [], vs, i, k, h => by rw [TVs] at k; rw [k] at h; cases h
  | u :: ts, vs, i, k, h => by
    rw [TVs] at k
    obtain ⟨y, r, e, k1, k2⟩ := k
    rw [e] at h
    cases i with
    | zero => cases h; exact ⟨u, rfl, k1⟩
    | succ i =>
      obtain ⟨t, h1, h2⟩ := TVs.get (ts := ts) (vs := r) (i := i) k2 h
      exact ⟨t, h1, h2⟩
theorem TVs.one {H : Hp} {t : Tr} {v : V} (h : TV H t v) : TVs H [t] [v] := by rw [TVs]; exact ⟨v, [], rfl, h, by rw [TVs]⟩
theorem TVs.two {H : Hp} {t u : Tr} {v x : V} (h : TV H t v) (k : TV H u x) : TVs H [t, u] [v, x] := by rw [TVs]; exact ⟨v, [x], rfl, h, TVs.one k⟩
theorem TVs.three {H : Hp} {t u z : Tr} {v x y : V} (h : TV H t v) (k : TV H u x) (j : TV H z y) : TVs H [t, u, z] [v, x, y] := by rw [TVs]; exact ⟨v, [x, y], rfl, h, TVs.two k j⟩
structure FO (P : Program) (w : World) (K : PySem.W.Frag) (mg : Str → Option Value) (base : Heap) (CX : CXT) (k : Nat) (x : Str) (ps : List Str) (sp : L2.Sp) (f : Addr) (fd : FuncData) : Prop where
  m : mg x = some (.ref f)
  kp : PySem.W.keepIn K (.ref f) = true
  b : Binds K fd ps []
  ok : FnOk P w K mg base CX k f fd ps sp
mutual
def treeD : Tr → PyData
  | .num n => .tuple [.str "number", .int (n : Nat)]
  | .str l => .tuple [.str "string", .str (S l)]
  | .name l => .tuple [.str "name", .str (S l)]
  | .call f as => .tuple [.str "call", .str (S f), .tuple (treeDs as)]
  | .ite a b c => .tuple [.str "if", treeD a, treeD b, treeD c]
  | .set x t => .tuple [.str "set", .str (S x), treeD t]
  | .seq a b => .tuple [.str "then", treeD a, treeD b]
  | .op c a b => .tuple [.str (S [c]), treeD a, treeD b]
def treeDs : List Tr → List PyData
  | [] => []
  | t :: ts => treeD t :: treeDs ts
end
mutual
theorem TV.dp {K : PySem.W.Frag} {H : Hp} : ∀ (t : Tr) (v : V), TV H t v → Dp K H v (treeD t)
  | .num n, v, h => by
    rw [TV] at h
    obtain ⟨q, rfl, h⟩ := h
    rw [treeD]
    exact .tup (SqT.of h) (.cons (.str _) (.cons (.int _) .nil))
  | .str n, v, h => by
    rw [TV] at h
    obtain ⟨q, rfl, h⟩ := h
    rw [treeD]
    exact .tup (SqT.of h) (.cons (.str _) (.cons (.str _) .nil))
  | .name n, v, h => by
    rw [TV] at h
    obtain ⟨q, rfl, h⟩ := h
    rw [treeD]
    exact .tup (SqT.of h) (.cons (.str _) (.cons (.str _) .nil))
  | .call f as, v, h => by
    rw [TV] at h
    obtain ⟨q, a, vs, rfl, h1, h2, h3, _⟩ := h
    rw [treeD]
    exact .tup (SqT.of h1) (.cons (.str _) (.cons (.str _) (.cons (.tup (SqT.of h2) (TVs.dp as vs h3)) .nil)))
  | .ite x y z, v, h => by
    rw [TV] at h
    obtain ⟨q, a, b, c, rfl, h1, h2, h3, h4⟩ := h
    rw [treeD]
    exact .tup (SqT.of h1) (.cons (.str _) (.cons (TV.dp x a h2) (.cons (TV.dp y b h3) (.cons (TV.dp z c h4) .nil))))
  | .set x t, v, h => by
    rw [TV] at h
    obtain ⟨q, a, rfl, h1, h2⟩ := h
    rw [treeD]
    exact .tup (SqT.of h1) (.cons (.str _) (.cons (.str _) (.cons (TV.dp t a h2) .nil)))
  | .seq x y, v, h => by
    rw [TV] at h
    obtain ⟨q, a, b, rfl, h1, h2, h3⟩ := h
    rw [treeD]
    exact .tup (SqT.of h1) (.cons (.str _) (.cons (TV.dp x a h2) (.cons (TV.dp y b h3) .nil)))
  | .op c x y, v, h => by
    rw [TV] at h
    obtain ⟨q, a, b, rfl, h1, h2, h3, _⟩ := h
    rw [treeD]
    exact .tup (SqT.of h1) (.cons (.str _) (.cons (TV.dp x a h2) (.cons (TV.dp y b h3) .nil)))
theorem TVs.dp {K : PySem.W.Frag} {H : Hp} : ∀ (ts : List Tr) (vs : List V), TVs H ts vs → DpAll K H vs (treeDs ts)
  | [], vs, h => by
    rw [TVs] at h
    rw [h, treeDs]
    exact .nil
  | t :: ts, vs, h => by
    rw [TVs] at h
    obtain ⟨v, r, rfl, h1, h2⟩ := h
    rw [treeDs]
    exact .cons (TV.dp t v h1) (TVs.dp ts r h2)
end
end K3


set_option maxRecDepth 100000
set_option maxHeartbeats 4000000
/-! data that can be shown and compared, with bounds -/
namespace K3
open PySem hiding Tok
open PySem.Spec PyProof.Rows GD K1
open L2 hiding rest
open K2 hiding Sp P
structure Fit (d : PyData) (k B : Nat) : Prop where
  sh : d.showable = true
  nd : d.hasDict = false
  dp : d.depth ≤ k
  ln : d.shown.length ≤ B
  cl : d.canLay0 = true
theorem Fit.more {d : PyData} {k B k' B' : Nat} (f : Fit d k B) (h1 : k ≤ k') (h2 : B ≤ B') : Fit d k' B' := ⟨f.sh, f.nd, Nat.le_trans f.dp h1, Nat.le_trans f.ln h2, f.cl⟩
theorem Fit.str {z : Str} {n : Nat} (h1 : z.length ≤ n) (h2 : ∀ c ∈ z.cps.toList, c < 1000) : Fit (.str z) 0 (10 * n + 2) := by
  refine ⟨by simp only [PyData.showable], by simp only [PyData.hasDict], by simp only [PyData.depth]; omega, ?_, ?_⟩
  · simp only [PyData.shown]
    have := StrLaws.reprText_len z fun c hc => Nat.lt_trans (h2 c hc) (by decide)
    omega
  · simp only [PyData.canLay0]
    unfold PyData.strOk
    rw [Array.all_eq_true]
    intro i hi
    exact decide_eq_true (Nat.lt_trans (h2 _ (by
      have : z.cps[i] ∈ z.cps := Array.getElem_mem hi
      exact Array.mem_toList_iff.mpr this)) (by decide))
theorem Fit.strS {l : List Nat} {n : Nat} (h1 : l.length ≤ n) (h2 : ∀ c ∈ l, c < 1000) : Fit (.str (S l)) 0 (10 * n + 2) := Fit.str (by rw [S_len]; exact h1) h2
theorem Fit.num {n : Nat} (h : n ≤ 99999) : Fit (.int (n : Nat)) 0 5 := by
  refine ⟨?_, by simp only [PyData.hasDict], by simp only [PyData.depth]; omega, ?_, by simp only [PyData.canLay0]⟩
  · simp only [PyData.showable]
    exact decide_eq_true (log_small (by omega))
  · simp only [PyData.shown]
    have := (numT_dig h).2.1
    have e : (Str.ofString (toString ((n : Nat) : Int))).length = (numT n).length := by
      show (Str.ofString (toString ((n : Nat) : Int))).cps.size = _
      unfold numT
      simp
    rw [← e] at this
    exact this
theorem Fit.bool (b : Bool) : Fit (.bool b) 0 5 := by
  refine ⟨by simp only [PyData.showable], by simp only [PyData.hasDict], by simp only [PyData.depth]; omega, ?_, by simp only [PyData.canLay0]⟩
  cases b <;> simp only [PyData.shown] <;> decide
theorem Fit.none : Fit .none 0 5 := by
  refine ⟨by simp only [PyData.showable], by simp only [PyData.hasDict], by simp only [PyData.depth]; omega, ?_, by simp only [PyData.canLay0]⟩
  simp only [PyData.shown]; decide
structure FitA (ds : List PyData) (k B : Nat) : Prop where
  sh : PyData.showableAll ds = true
  nd : PyData.hasDictAll ds = false
  dp : PyData.depthAll ds ≤ k
  ln : ∀ x ∈ PyData.shownAll ds, x.length ≤ B
  le : (PyData.shownAll ds).length = ds.length
  cl : PyData.canLayAll0 ds = true
theorem FitA.of {k B : Nat} : ∀ {ds : List PyData}, (∀ d ∈ ds, Fit d k B) → FitA ds k B
  | [], _ => ⟨rfl, rfl, Nat.zero_le _, fun x hx => (by cases hx), rfl, rfl⟩
  | d :: ds, h => by
    have f := h d List.mem_cons_self
    have r := FitA.of (ds := ds) fun x hx => h x (List.mem_cons_of_mem _ hx)
    refine ⟨?_, ?_, ?_, fun x hx => ?_, ?_, ?_⟩
    · show (PyData.showable d && PyData.showableAll ds) = true
      rw [f.sh, r.sh]; rfl
    · show (PyData.hasDict d || PyData.hasDictAll ds) = false
      rw [f.nd, r.nd]; rfl
    · show max (PyData.depth d) (PyData.depthAll ds) ≤ k
      have := f.dp; have := r.dp; omega
    · rcases List.mem_cons.mp hx with rfl | hx
      · exact f.ln
      · exact r.ln x hx
    · show (PyData.shownAll ds).length + 1 = ds.length + 1
      rw [r.le]
    · show (PyData.canLay0 d && PyData.canLayAll0 ds) = true
      rw [f.cl, r.cl]; rfl
theorem textFrom_up2 : ∀ (ts : List Str) (k : Nat) (acc : Str) (B : Nat), (∀ t ∈ ts, t.length ≤ B) → (textFrom k acc ts).length ≤ acc.length + ts.length * (B + 2)
  | [], k, acc, B, _ => by
    show acc.length ≤ _
    omega
  | t :: ts, k, acc, B, h => by
    have ih := textFrom_up2 ts (k + 1) (acc ++ (if k > 0 then ", " else "" : String) ++ t) B (fun x hx => h x (List.mem_cons_of_mem _ hx))
    have ht := h t List.mem_cons_self
    have e : (acc ++ (if k > 0 then ", " else "" : String) ++ t).length ≤ acc.length + 2 + t.length := by
      rw [strLen_append, strLen_append]
      have : ((if k > 0 then ", " else "" : String) : Str).length ≤ 2 := by split <;> decide
      omega
    show (textFrom (k + 1) (acc ++ (if k > 0 then ", " else "" : String) ++ t) ts).length ≤ acc.length + (ts.length + 1) * (B + 2)
    rw [Nat.add_mul]
    omega
theorem Fit.list {ds : List PyData} {k B : Nat} (h : ∀ d ∈ ds, Fit d k B) : Fit (.list ds) (k + 1) (ds.length * (B + 2) + 4) := by
  have r := FitA.of h
  refine ⟨by simpa only [PyData.showable] using r.sh, by simpa only [PyData.hasDict] using r.nd, by simp only [PyData.depth]; have := r.dp; omega, ?_, by simpa only [PyData.canLay0] using r.cl⟩
  simp only [PyData.shown]
  unfold listText
  rw [strLen_append]
  have := textFrom_up2 (PyData.shownAll ds) 0 "[" B r.ln
  rw [r.le] at this
  have e1 : (("[" : String) : Str).length = 1 := rfl
  have e2 : (("]" : String) : Str).length = 1 := rfl
  rw [e1] at this
  rw [e2]
  omega
theorem piled_le {B : Nat} : ∀ {ts : List Str}, (∀ t ∈ ts, t.length ≤ B) → piled ts ≤ ts.length * (B + 2)
  | [], _ => Nat.zero_le _
  | t :: ts, h => by
    have h1 := h t List.mem_cons_self
    have h2 := piled_le (ts := ts) fun x hx => h x (List.mem_cons_of_mem _ hx)
    have e : piled (t :: ts) = t.length + 2 + piled ts := by simp [piled]
    rw [e, List.length_cons, Nat.succ_mul]
    omega
theorem Fit.tup {ds : List PyData} {k B : Nat} (h : ∀ d ∈ ds, Fit d k B) : Fit (.tuple ds) (k + 1) (ds.length * (B + 2) + 4) := by
  have r := FitA.of h
  refine ⟨by simpa only [PyData.showable] using r.sh, by simpa only [PyData.hasDict] using r.nd, by simp only [PyData.depth]; have := r.dp; omega, ?_, by simpa only [PyData.canLay0] using r.cl⟩
  simp only [PyData.shown]
  unfold tupleText
  rw [strLen_append, strLen_append]
  have e1 : (("(" : String) : Str).length = 1 := rfl
  have e2 : ((if (PyData.shownAll ds).length == 1 then ",)" else ")" : String) : Str).length ≤ 2 := by split <;> decide
  have e3 : (Str.join ", " (PyData.shownAll ds)).length ≤ ds.length * (B + 2) := by
    by_cases z : PyData.shownAll ds = []
    · rw [z]; exact Nat.zero_le _
    · have := join_length_add _ z
      have := piled_le r.ln
      rw [r.le] at this
      omega
  omega
theorem Fit.shaped {d : PyData} {k B : Nat} (f : Fit d k B) (h : k ≤ 64) : SeqAt.shaped d = true := by
  unfold SeqAt.shaped
  rw [f.cl, decide_eq_true (Nat.le_trans f.dp h)]
  rfl
end K3



set_option maxRecDepth 100000
set_option maxHeartbeats 8000000
/-! the law's own: _law_atom, _law_tree -/
namespace K3
open PySem hiding Tok code
open PySem.Spec PyProof.Rows GD K1
open L2 hiding rest
open K2 hiding Sp P
abbrev sAtom : Stmt := topS 19
abbrev sTree : Stmt := topS 20
/-- a list of names -/
structure Nam (H : Hp) (ln : Addr) (ns : List (List Nat)) : Prop where
  at_ : H ln = some (.lst (ns.map fun l => .str (S l)))
  ok : ∀ l ∈ ns, nmB l = true ∧ l.length ≤ 6
  sm : ns.length ≤ 500
/-- a list of names of functions, with how many parameters -/
structure Cal (H : Hp) (lc : Addr) (cs : List (List Nat × Nat)) : Prop where
  ex : ∃ vs, H lc = some (.lst vs) ∧ Paired (fun v (c : List Nat × Nat) => ∃ q, v = .ref q ∧ H q = some (.tup [.str (S c.1), .int (c.2 : Nat)])) vs cs
  ok : ∀ c ∈ cs, nmB c.1 = true ∧ c.1.length ≤ 6 ∧ c.2 ≤ 3
  sm : cs.length ≤ 500
theorem pairImp {α β : Type} {R R' : α → β → Prop} (k : ∀ a b, R a b → R' a b) {l : List α} {m : List β} (h : Paired R l m) : Paired R' l m := by
  induction h with
  | nil => exact .nil
  | cons x _ ih => exact .cons (k _ _ x) ih
section
variable {b d : Addr} {ds : List Int} {H H' : Hp} {n n' : Nat}
theorem box_ne_strs {ns : List (List Nat)} : (HO.lst (ns.map fun l => V.str (S l))) ≠ .lst [.ref d, .int (n : Nat)] := fun e => by
  have e : (ns.map fun l => V.str (S l)) = [.ref d, .int (n : Nat)] := by injection e
  cases ns with
  | nil => cases e
  | cons a r => exact absurd (List.cons.inj e).1 (by intro z; cases z)
theorem Bs.tup (y : Bs b d ds H H' n') (x : Box H b d ds n) : ∀ q xs, H q = some (.tup xs) → H' q = some (.tup xs) := fun q xs e => y.bx _ _ (ne_of e x.1 (by intro z; cases z)) e
theorem Nam.bs {ln : Addr} {ns : List (List Nat)} (h : Nam H ln ns) (x : Box H b d ds n) (y : Bs b d ds H H' n') : Nam H' ln ns :=
  ⟨y.bx _ _ (ne_of h.at_ x.1 box_ne_strs) h.at_, h.ok, h.sm⟩
theorem Cal.bs {lc : Addr} {cs : List (List Nat × Nat)} (h : Cal H lc cs) (x : Box H b d ds n) (y : Bs b d ds H H' n') : Cal H' lc cs := by
  obtain ⟨vs, h1, h2⟩ := h.ex
  refine ⟨⟨vs, y.bx _ _ (ne_of h1 x.1 (fun e => ?_)) h1, pairImp (fun v c ⟨q, e, hq⟩ => ⟨q, e, Bs.tup y x _ _ hq⟩) h2⟩, h.ok, h.sm⟩
  have e : vs = [.ref d, .int (n : Nat)] := by injection e
  subst e
  cases h2 with
  | cons _ h2 =>
    cases h2 with
    | cons h3 _ => obtain ⟨q, e, _⟩ := h3; cases e
theorem TV.bs {t : Tr} {v : V} (h : TV H t v) (x : Box H b d ds n) (y : Bs b d ds H H' n') : TV H' t v := TV.imp (Bs.tup y x) t v h
end
section
variable {P : Program} {w : World} {K : PySem.W.Frag} {mg : Str → Option Value} {base : Heap}
def strM : List (List Nat) := (["", "s", "t", "ab", "x y", "twelve signs"] : List Str).map fun z => z.cps.toList
def numM : List Nat := [0, 1, 2, 7, 12, 3, 1, 0, 5, 99999]
def spAtom : L2.Sp := fun vs H Q _ => ∃ (b d : Addr) (ds : List Int) (n : Nat) (ln : Addr) (ns : List (List Nat)), vs = [.ref b, .ref ln] ∧ Box H b d ds n ∧ Nam H ln ns ∧
  ∀ H' v n' t, Bs b d ds H H' n' → TV H' t v → Dr 0 t → Q v H'
theorem fit_names {ns : List (List Nat)} (h : ∀ l ∈ ns, nmB l = true ∧ l.length ≤ 6) : ∃ B, Fit (.list (ns.map fun l => PyData.str (S l))) 1 B := by
  refine ⟨_, Fit.list (k := 0) (B := 62) fun d hd => ?_⟩
  obtain ⟨l, hl, rfl⟩ := List.mem_map.mp hd
  refine (Fit.strS (n := 6) (h l hl).2 fun c hc => ?_).more (Nat.le_refl _) (by decide)
  have g := (nmB_good (h l hl).1).2.2 c hc
  have : ∀ c ∈ LET, c < 1000 := by decide
  exact this c g
theorem dp_names {H : Hp} {ns : List (List Nat)} : ∀ (l : List (List Nat)), DpAll K H (l.map fun l => V.str (S l)) (l.map fun l => PyData.str (S l))
  | [] => .nil
  | x :: l => .cons (.str _) (dp_names (ns := ns) l)
theorem eqv_nil {ds : List PyData} : PyData.eqv (.list ds) (.list []) = ds.isEmpty := by
  cases ds with
  | nil => simp only [PyData.eqv, PyData.eqvAll]; rfl
  | cons a r => simp only [PyData.eqv, PyData.eqvAll]; rfl
theorem fit_nil : Fit (.list []) 1 4 := Fit.list (k := 0) (B := 0) (ds := []) (fun d hd => by cases hd)
theorem scLAtom : FnScope ["box", "names", "kind"] ["box", "names"] (defScope sAtom) := ⟨rfl, rfl, rfl, by decide +kernel, rfl, by decide +kernel, by decide +kernel⟩
theorem ok_latom {f f1 : Addr} {fd fd1 : FuncData} (F : Fun K "_law_atom" "_law_atom" sAtom f fd) (T : Txt K mg) (FD : FO P w K mg base CX0 1 "_law_draw" ["box", "many"] spDraw f1 fd1) :
    FnOk P w K mg base CX0 2 f fd ["box", "names"] spAtom := by
  have sc := scLAtom
  refine F.ok sc (fun vs H Q E h => ?_) (fun cdv A outer s H vs Q E hr h => ?_)
  · obtain ⟨b, d, ds, n, ln, ns, rfl, _⟩ := h
    rfl
  · obtain ⟨b, d, ds, n, ln, ns, rfl, hB, hN, q⟩ := h
    refine ⟨_, pss_cons (ps_set (i := 2) sc.nd rfl (.inl rfl) (pe_call FD.ok hr (by rfl) FD.m FD.kp FD.b .nil pass0 (pa_cons (pv 0) (pa_cons pe_int pa_nil))))
      (pss_cons (ps_if (PW.pt (pw_and (pt_cmpR op_le (pv 2) pe_int (nomark _)) (pw_and1 (pt_cmpR (op_neD hr.units) (pv 1) (pe_lst pa_nil) (nomark _)))))
        (pss_one (ps_ret (pe_tup (pa_cons pe_str (pa_cons (pe_ix ix_list (pv 1) (pe_call FD.ok hr (by rfl) FD.m FD.kp FD.b .nil pass0 (pa_cons (pv 0) (pa_cons (pe_callB call_len_seq (by rfl) T.len (by decide +kernel) (pa_cons (pv 1) pa_nil)) pa_nil))) (fun _ _ => rfl)) pa_nil))))) pss_nil)
      (pss_cons (ps_if (pt_cmpR op_eq (pv 2) pe_int (nomark _))
        (pss_one (ps_ret (pe_tup (pa_cons pe_str (pa_cons (pe_ix ix_list (pe_lst (pa_cons pe_str (pa_cons pe_str (pa_cons pe_str (pa_cons pe_str (pa_cons pe_str (pa_cons pe_str pa_nil))))))) (pe_call FD.ok hr (by rfl) FD.m FD.kp FD.b .nil pass0 (pa_cons (pv 0) (pa_cons pe_int pa_nil))) (fun _ _ => rfl)) pa_nil))))) pss_nil)
      (pss_one (ps_ret (pe_tup (pa_cons pe_str (pa_cons (pe_ix ix_list (pe_lst (pa_cons pe_int (pa_cons pe_int (pa_cons pe_int (pa_cons pe_int (pa_cons pe_int (pa_cons pe_int (pa_cons pe_int (pa_cons pe_int (pa_cons pe_int (pa_cons pe_int pa_nil)))))))))))
        (pe_call FD.ok hr (by rfl) FD.m FD.kp FD.b .nil pass0 (pa_cons (pv 0) (pa_cons pe_int pa_nil))) (fun _ _ => rfl)) pa_nil))))))), ?_⟩
    refine ⟨_, rfl, b, d, ds, n, 20, rfl, hB, by decide, fun r h0 h1 => ?_⟩
    have s1 := (Bs.refl hB).draw
    have N1 := hN.bs hB s1
    refine ⟨_, rfl, _, _, rfl, rfl, _, rfl, ite2 (fun h => ?names) (fun h => iteF ⟨_, rfl, rfl, _, rfl, ?g1⟩)⟩
    case' g1 => have sx := s1
    case' names =>
      refine ⟨_, rfl, Nat.zero_le _, fun l nl => ?_⟩
      have s2 := s1.new (o := .lst []) nl
      have N2 := N1.bs s1.box ((Bs.refl s1.box).new (o := .lst []) nl)
      obtain ⟨B, fit⟩ := fit_names hN.ok
      refine ⟨_, _, .lst (SqL.of N2.at_) (dp_names (ns := ns) ns), .lst (SqL.of upd_same) .nil, fit.shaped (by decide), fit_nil.shaped (by decide), _, rfl, ?_⟩
      rw [eqv_nil]
      rcases ns with _ | ⟨x, r⟩
      rotate_left
      · refine iteT ?_
        refine ⟨_, rfl, _, rfl, _, rfl, ln, _, rfl, .inl (SqL.of N2.at_), b, d, ds, n + 1, _, rfl, s2.box, ?_, fun r3 h4 h5 => ?_⟩
        · rw [List.length_map, List.length_cons]; omega
        have s3 := s2.draw
        rw [List.length_map] at h5
        obtain ⟨j, rfl, hj⟩ := idx h4 h5
        obtain ⟨z, ez⟩ : ∃ z, (x :: r)[j]? = some z := ⟨_, List.getElem?_eq_getElem hj⟩
        have N3 := N2.bs s2.box (Bs.draw (Bs.refl s2.box))
        refine ⟨ln, _, _, .str (S z), rfl, rfl, SqL.of N3.at_, atI_nat (by rw [List.getElem?_map, ez]; rfl), two_le, fun p np => ?_⟩
        refine q _ _ _ (.name z) (s3.new np) ?_ ?_
        · rw [TV]; exact ⟨p, rfl, upd_same⟩
        · have g := hN.ok z (List.mem_of_getElem? ez)
          exact .name g.1 g.2
      refine iteF ⟨_, rfl, rfl, _, rfl, ?_⟩
      have sx := s2
    all_goals (refine ite2 (fun h => ?_) (fun h => ?_))
    all_goals try (
      refine ⟨by show 6 ≤ sizeLine; decide, fun l nl => ?_⟩
      have s2 := sx.new (o := .lst (strM.map fun z => V.str (S z))) nl
      refine ⟨_, rfl, b, d, ds, _, 6, rfl, s2.box, by decide, fun r3 h4 h5 => ?_⟩
      have s3 := s2.draw
      obtain ⟨j, rfl, hj⟩ := idx (m := 6) h4 h5
      obtain ⟨z, ez⟩ : ∃ z, strM[j]? = some z := ⟨_, List.getElem?_eq_getElem hj⟩
      refine ⟨l, _, _, .str (S z), rfl, rfl, SqL.of (xs := strM.map fun z => V.str (S z)) (by rw [upd_ne (sx.nb nl), upd_same]; exact congrArg (fun l => some (HO.lst l)) (by decide +kernel)), atI_nat (by rw [List.getElem?_map, ez]; rfl), two_le, fun p np => ?_⟩
      refine q _ _ _ (.str z) (s3.new np) (by rw [TV]; exact ⟨p, rfl, upd_same⟩) ?_
      have : ∀ z ∈ strM, z.length ≤ 12 ∧ ∀ c ∈ z, mayB c = true := by decide +kernel
      have g := this z (List.mem_of_getElem? ez)
      exact .str g.1 g.2)
    all_goals (
      refine ⟨by show 10 ≤ sizeLine; decide, fun l nl => ?_⟩
      have s2 := sx.new (o := .lst (numM.map fun z => V.int (z : Nat))) nl
      refine ⟨_, rfl, b, d, ds, _, 10, rfl, s2.box, by decide, fun r3 h4 h5 => ?_⟩
      have s3 := s2.draw
      obtain ⟨j, rfl, hj⟩ := idx (m := 10) h4 h5
      obtain ⟨z, ez⟩ : ∃ z, numM[j]? = some z := ⟨_, List.getElem?_eq_getElem hj⟩
      refine ⟨l, _, _, .int (z : Nat), rfl, rfl, SqL.of (xs := numM.map fun z => V.int (z : Nat)) (by rw [upd_ne (sx.nb nl), upd_same]; exact congrArg (fun l => some (HO.lst l)) (by decide +kernel)), atI_nat (by rw [List.getElem?_map, ez]; rfl), two_le, fun p np => ?_⟩
      refine q _ _ _ (.num z) (s3.new np) (by rw [TV]; exact ⟨p, rfl, upd_same⟩) ?_
      have : ∀ z ∈ numM, z ≤ 99999 := by decide
      exact .num (this z (List.mem_of_getElem? ez)))
end
end K3

set_option maxRecDepth 100000
set_option maxHeartbeats 8000000
/-! the law's own: _law_tree -/
namespace K3
open PySem hiding Tok code
open PySem.Spec PyProof.Rows GD K1
open L2 hiding rest
open K2 hiding Sp P
section
variable {P : Program} {w : World} {K : PySem.W.Frag} {mg : Str → Option Value} {base : Heap}
def spTr (n : Nat) : L2.Sp := fun vs H Q _ => ∃ (b d : Addr) (ds : List Int) (m : Nat) (ln lc : Addr) (ns : List (List Nat)) (cs : List (List Nat × Nat)) (dep : Nat), vs = [.ref b, .ref ln, .ref lc, .int (dep : Nat)] ∧ Box H b d ds m ∧ Nam H ln ns ∧ Cal H lc cs ∧ dep < n ∧
  ∀ H' v m' t, Bs b d ds H H' m' → TV H' t v → Dr dep t → Q v H'
/-- more names of the top that are the built-ins' -/
structure Txt2 (mg : Str → Option Value) : Prop where
  btuple : mg "tuple" = none
  max : mg "max" = none
theorem argT (b ln lc : Addr) (e : Nat) : [V.ref b, V.ref ln, V.ref lc, V.int (((e + 1 : Nat) : Int) - 1)] = [V.ref b, V.ref ln, V.ref lc, V.int (e : Nat)] := by
  rw [show ((e + 1 : Nat) : Int) - 1 = (e : Nat) by omega]
theorem fit_calls {H : Hp} {vs : List V} {cs : List (List Nat × Nat)} (h : Paired (fun v (c : List Nat × Nat) => ∃ q, v = .ref q ∧ H q = some (.tup [.str (S c.1), .int (c.2 : Nat)])) vs cs)
    (ok : ∀ c ∈ cs, nmB c.1 = true ∧ c.1.length ≤ 6 ∧ c.2 ≤ 3) : ∃ ds B, DpAll K H vs ds ∧ ds.isEmpty = cs.isEmpty ∧ Fit (.list ds) 2 B := by
  suffices h2 : ∃ ds, DpAll K H vs ds ∧ ds.isEmpty = cs.isEmpty ∧ ∀ x ∈ ds, Fit x 1 (2 * 64 + 4) by
    obtain ⟨ds, h1, h2, h3⟩ := h2
    exact ⟨ds, _, h1, h2, Fit.list h3⟩
  induction h with
  | nil => exact ⟨[], .nil, rfl, fun x hx => by cases hx⟩
  | @cons v c vs cs r _ ih =>
    obtain ⟨ds, h1, _, h3⟩ := ih fun x hx => ok x (List.mem_cons_of_mem _ hx)
    obtain ⟨q, rfl, hq⟩ := r
    obtain ⟨o1, o2, o3⟩ := ok c List.mem_cons_self
    refine ⟨.tuple [.str (S c.1), .int (c.2 : Nat)] :: ds, .cons (.tup (SqT.of hq) (.cons (.str _) (.cons (.int _) .nil))) h1, rfl, fun x hx => ?_⟩
    rcases List.mem_cons.mp hx with rfl | hx
    · refine Fit.tup (B := 62) fun y hy => ?_
      simp only [List.mem_cons, List.not_mem_nil, or_false] at hy
      rcases hy with rfl | rfl
      · refine (Fit.strS (n := 6) o2 fun c' hc => ?_).more (Nat.le_refl _) (by decide)
        have g := (nmB_good o1).2.2 c' hc
        have : ∀ c ∈ LET, c < 1000 := by decide
        exact this c' g
      · exact (Fit.num (by omega)).more (Nat.le_refl _) (by decide)
    · exact h3 x hx
theorem _root_.K1.Bs.wr {b d D : Addr} {ds : List Int} {H H' : Hp} {n n0 : Nat} {o : HO} (h : Bs b d ds H H' n) (x : Box H b d ds n0) (nD : H D = none) : Bs b d ds H (upd H' D o) n := by
  have nb : b ≠ D := ne_of_none x.1 nD
  have nd : d ≠ D := ne_of_none x.2.1 nD
  refine ⟨fun c u nc hc => ?_, ⟨by rw [upd_ne nb]; exact h.box.1, by rw [upd_ne nd]; exact h.box.2.1, h.box.2.2⟩, fun c hc => ?_⟩
  · rw [upd_ne (ne_of_none hc nD)]
    exact h.bx c u nc hc
  · by_cases e : c = D
    · rw [e]; exact nD
    · rw [upd_ne e] at hc
      exact h.free c hc
theorem pairGet {α β : Type} {R : α → β → Prop} {l : List α} {m : List β} (h : Paired R l m) : ∀ {i : Nat} {y : β}, m[i]? = some y → ∃ x, l[i]? = some x ∧ R x y := by
  induction h with
  | nil => intro i y h; cases h
  | @cons a b l m r _ ih =>
    intro i y h
    cases i with
    | zero => cases h; exact ⟨a, rfl, r⟩
    | succ i => exact ih h
def sgnM : List Nat := [43, 45, 42, 60, 61, 43]
theorem scTree : FnScope ["box", "names", "calls", "depth", "kind", "first", "second", "plain", "name", "many", "k"] ["box", "names", "calls", "depth"] (defScope sTree) := ⟨rfl, rfl, rfl, by decide +kernel, rfl, by decide +kernel, by decide +kernel⟩
theorem ok_tree1 {n : Nat} {f f1 f2 : Addr} {fd fd1 fd2 : FuncData} (F : Fun K "_law_tree" "_law_tree" sTree f fd) (T : Txt K mg) (T2 : Txt2 mg) (FD : FO P w K mg base CX0 1 "_law_draw" ["box", "many"] spDraw f1 fd1)
    (FA : FO P w K mg base CX0 2 "_law_atom" ["box", "names"] spAtom f2 fd2) (m : mg "_law_tree" = some (.ref f)) (kp : PySem.W.keepIn K (.ref f) = true) (bi : Binds K fd ["box", "names", "calls", "depth"] [])
    (FT : FnOk P w K mg base CX0 (2 + n) f fd ["box", "names", "calls", "depth"] (spTr n)) :
    FnOk P w K mg base CX0 (2 + n + 1) f fd ["box", "names", "calls", "depth"] (spTr (n + 1)) := by
  have sc := scTree
  refine F.ok sc (fun vs H Q E h => ?_) (fun cdv A outer s H vs Q E hr h => ?_)
  · obtain ⟨b, d, ds, m, ln, lc, ns, cs, dep, rfl, _⟩ := h
    rfl
  · obtain ⟨b, d, ds, m0, ln, lc, ns, cs, dep, rfl, hB, hN, hC, hd, q⟩ := h
    have hr1 : Room 1 _ := hr.mono (by omega)
    have hr2 : Room 2 _ := hr.mono (by omega)
    refine ⟨_, (pss_cons (ps_set (i := 4) sc.nd rfl (Or.inl rfl) (pe_call FD.ok hr1 (by rfl) FD.m FD.kp FD.b .nil pass0 (pa_cons (pv 0) (pa_cons pe_int pa_nil))))
      (pss_cons (ps_if (PW.pt (pw_or (pt_cmpR op_le (pv 3) pe_int (nomark _)) (pw_or1 (pt_cmpR op_le (pv 4) pe_int (nomark _)))))
      (pss_one (ps_ret (pe_call FA.ok hr2 (by rfl) FA.m FA.kp FA.b .nil pass0 (pa_cons (pv 0) (pa_cons (pv 1) pa_nil)))))
      pss_nil)
      (pss_cons (ps_if (pt_cmpR op_le (pv 4) pe_int (nomark _))
      (pss_cons (ps_set (i := 5) sc.nd rfl (Or.inl rfl) (pe_call FT hr (by rfl) m kp bi .nil pass0 (pa_cons (pv 0) (pa_cons (pv 1) (pa_cons (pv 2) (pa_cons (pe_op op_sub (pv 3) pe_int) pa_nil))))))
      (pss_one (ps_ret (pe_tup (pa_cons (pe_ix ix_list (pe_lst (pa_cons pe_str (pa_cons pe_str (pa_cons pe_str (pa_cons pe_str (pa_cons pe_str (pa_cons pe_str pa_nil))))))) (pe_call FD.ok hr1 (by rfl) FD.m FD.kp FD.b .nil pass0 (pa_cons (pv 0) (pa_cons pe_int pa_nil))) (fun _ _ => rfl)) (pa_cons (pv 5) (pa_cons (pe_call FT hr (by rfl) m kp bi .nil pass0 (pa_cons (pv 0) (pa_cons (pv 1) (pa_cons (pv 2) (pa_cons (pe_op op_sub (pv 3) pe_int) pa_nil))))) pa_nil)))))))
      pss_nil)
      (pss_cons (ps_if (pt_cmpR op_eq (pv 4) pe_int (nomark _))
      (pss_cons (ps_set (i := 5) sc.nd rfl (Or.inl rfl) (pe_call FT hr (by rfl) m kp bi .nil pass0 (pa_cons (pv 0) (pa_cons (pv 1) (pa_cons (pv 2) (pa_cons (pe_op op_sub (pv 3) pe_int) pa_nil))))))
      (pss_cons (ps_set (i := 6) sc.nd rfl (Or.inl rfl) (pe_call FT hr (by rfl) m kp bi .nil pass0 (pa_cons (pv 0) (pa_cons (pv 1) (pa_cons (pv 2) (pa_cons (pe_op op_sub (pv 3) pe_int) pa_nil))))))
      (pss_one (ps_ret (pe_tup (pa_cons pe_str (pa_cons (pv 5) (pa_cons (pv 6) (pa_cons (pe_call FT hr (by rfl) m kp bi .nil pass0 (pa_cons (pv 0) (pa_cons (pv 1) (pa_cons (pv 2) (pa_cons (pe_op op_sub (pv 3) pe_int) pa_nil))))) pa_nil)))))))))
      pss_nil)
      (pss_cons (ps_setLc (i := 7) (own := [("name", 8)]) rfl sc.nd rfl rfl (sw_true rfl rfl rfl (by decide +kernel)) (pi_list (pv 1)) (blkOk_by (own := [("name", 8)]) (N := ["box", "names", "calls", "depth", "kind", "first", "second", "plain", "name", "many", "k"]) (sc := defScope sTree) (by decide +kernel)) (fun _ _ _ _ _ => (pg_name (i := 8) sc.nd rfl (Or.inl rfl))) (fun _ _ _ _ _ => (pts_one (pt_cmpR (show OpR _ _ (rIn K true) from op_notIn_seq) (pv 8) (pe_tup (pa_cons pe_str (pa_cons pe_str pa_nil))) rfl))) (fun _ _ _ _ _ => (pv 8)))
      (pss_cons (ps_if (PW.pt (pw_and (pt_cmpR op_eq (pv 4) pe_int (nomark _)) (pw_and1 (pt_cmpR (op_neD hr.units) (pv 7) (pe_lst pa_nil) (nomark _)))))
      (pss_one (ps_ret (pe_tup (pa_cons pe_str (pa_cons (pe_ix ix_list (pv 7) (pe_call FD.ok hr1 (by rfl) FD.m FD.kp FD.b .nil pass0 (pa_cons (pv 0) (pa_cons (pe_callB call_len_seq (by rfl) T.len (by decide +kernel) (pa_cons (pv 7) pa_nil)) pa_nil))) (fun _ _ => rfl)) (pa_cons (pe_call FT hr (by rfl) m kp bi .nil pass0 (pa_cons (pv 0) (pa_cons (pv 1) (pa_cons (pv 2) (pa_cons (pe_op op_sub (pv 3) pe_int) pa_nil))))) pa_nil))))))
      pss_nil)
      (pss_cons (ps_if (pt_cmpR op_eq (pv 4) pe_int (nomark _))
      (pss_cons (ps_set (i := 5) sc.nd rfl (Or.inl rfl) (pe_call FT hr (by rfl) m kp bi .nil pass0 (pa_cons (pv 0) (pa_cons (pv 1) (pa_cons (pv 2) (pa_cons (pe_op op_sub (pv 3) pe_int) pa_nil))))))
      (pss_one (ps_ret (pe_tup (pa_cons pe_str (pa_cons (pv 5) (pa_cons (pe_call FT hr (by rfl) m kp bi .nil pass0 (pa_cons (pv 0) (pa_cons (pv 1) (pa_cons (pv 2) (pa_cons (pe_op op_sub (pv 3) pe_int) pa_nil))))) pa_nil)))))))
      pss_nil)
      (pss_cons (ps_if (pt_cmpR (op_eqD hr.units) (pv 2) (pe_lst pa_nil) (nomark _))
      (pss_one (ps_ret (pe_call FA.ok hr2 (by rfl) FA.m FA.kp FA.b .nil pass0 (pa_cons (pv 0) (pa_cons (pv 1) pa_nil)))))
      pss_nil)
      (pss_cons (ps_asg (pe_ix ix_list (pv 2) (pe_call FD.ok hr1 (by rfl) FD.m FD.kp FD.b .nil pass0 (pa_cons (pv 0) (pa_cons (pe_callB call_len_seq (by rfl) T.len (by decide +kernel) (pa_cons (pv 2) pa_nil)) pa_nil))) (fun _ _ => rfl)) (pg_tup rfl (pgs_cons (pg_name (i := 8) sc.nd rfl (Or.inl rfl)) (pgs_cons (pg_name (i := 9) sc.nd rfl (Or.inl rfl)) pgs_nil))))
      (pss_one (ps_ret (pe_tup (pa_cons pe_str (pa_cons (pv 8) (pa_cons (pe_callTy call_tuple_of (by rfl) T2.btuple (by decide +kernel) (pa_cons (pe_lc (own := [("k", 10)]) rfl sc.nd (pi_range1 rfl T.range (pa_cons (pv 9) pa_nil)) (blkOk_by (own := [("k", 10)]) (N := ["box", "names", "calls", "depth", "kind", "first", "second", "plain", "name", "many", "k"]) (sc := defScope sTree) (by decide +kernel)) (fun _ _ _ _ _ => (pg_name (i := 10) sc.nd rfl (Or.inl rfl))) (fun _ _ _ _ _ => pts_nil) (fun _ _ _ _ _ => (pe_call FT hr (by rfl) m kp bi .nil pass0 (pa_cons (pv 0) (pa_cons (pv 1) (pa_cons (pv 2) (pa_cons (pe_op op_sub (pv 3) pe_int) pa_nil))))))) pa_nil)) pa_nil))))))))))))))), ?_⟩
    refine ⟨_, rfl, b, d, ds, m0, 14, rfl, hB, by decide, fun r h0 h1 => ?_⟩
    have s1 := (Bs.refl hB).draw
    have N1 := hN.bs hB s1
    have C1 := hC.bs hB s1
    refine ⟨_, rfl, _, _, rfl, rfl, _, rfl, ite2 (fun h => ?_) (fun hdep => ⟨_, rfl, _, _, rfl, rfl, _, rfl, ite2 (fun h => ?_) (fun hk4 => ?_)⟩)⟩
    iterate 2 (· exact ⟨_, rfl, _, rfl, b, d, ds, _, ln, ns, rfl, s1.box, N1, fun H' v n' t y tv dr => q H' v n' t (s1.trans y) tv (dr.more (Nat.zero_le _))⟩)
    obtain ⟨e, rfl⟩ : ∃ e, dep = e + 1 := ⟨dep - 1, by have : ¬ ((dep : Int) ≤ 0) := fun z => hdep (decide_eq_true z); omega⟩
    have he : e < n := by omega
    refine ⟨_, rfl, _, _, rfl, rfl, _, rfl, ite2 (fun h => ?_) (fun hk8 => ?_)⟩
    · -- a sign
      refine ⟨_, rfl, _, rfl, _, rfl, _, rfl, _, _, rfl, rfl, b, d, ds, _, ln, lc, ns, cs, e, argT b ln lc e, s1.box, N1, C1, he, fun H2 v2 m2 t2 y2 tv2 dr2 => ?_⟩
      refine ⟨by show 6 ≤ sizeLine; decide, fun l nl => ?_⟩
      have sA := (Bs.refl y2.box).new (o := .lst (sgnM.map fun z => V.str (S [z]))) nl
      refine ⟨_, rfl, b, d, ds, _, 6, rfl, sA.box, by decide, fun r3 h4 h5 => ?_⟩
      have sB := sA.draw
      have s2 := (s1.trans y2).trans sB
      obtain ⟨j, rfl, hj⟩ := idx (m := 6) h4 h5
      obtain ⟨z, ez⟩ : ∃ z, sgnM[j]? = some z := ⟨_, List.getElem?_eq_getElem hj⟩
      refine ⟨l, _, _, .str (S [z]), rfl, rfl, SqL.of (xs := sgnM.map fun z => V.str (S [z])) (by rw [upd_ne (y2.nb nl), upd_same]; exact congrArg (fun l => some (HO.lst l)) (by decide +kernel)), atI_nat (by rw [List.getElem?_map, ez]; rfl), ?_⟩
      refine ⟨_, rfl, _, rfl, _, rfl, _, rfl, _, rfl, _, _, rfl, rfl, b, d, ds, _, ln, lc, ns, cs, e, argT b ln lc e, s2.box, hN.bs hB s2, hC.bs hB s2, he, fun H3 v3 m3 t3 y3 tv3 dr3 => ⟨three_le, fun p np => ?_⟩⟩
      have hz : z ∈ [42, 43, 45, 60, 61] := by
        have : ∀ z ∈ sgnM, z ∈ [42, 43, 45, 60, 61] := by decide
        exact this z (List.mem_of_getElem? ez)
      refine q _ _ _ (.op z t2 t3) ((s2.trans y3).new np) ?_ (.op hz dr2 dr3)
      rw [TV]
      exact ⟨p, v2, v3, rfl, upd_same, TV.imp (newtup np) t2 v2 (tv2.bs y2.box (sB.trans y3)), TV.imp (newtup np) t3 v3 tv3, hz⟩
    refine ⟨_, rfl, rfl, _, rfl, ite2 (fun h => ?_) (fun hk9 => ?_)⟩
    · -- an if
      refine ⟨_, rfl, _, rfl, _, rfl, _, rfl, _, _, rfl, rfl, b, d, ds, _, ln, lc, ns, cs, e, argT b ln lc e, s1.box, N1, C1, he, fun H2 v2 m2 t2 y2 tv2 dr2 => ?_⟩
      have s2 := s1.trans y2
      refine ⟨_, rfl, _, rfl, _, rfl, _, rfl, _, _, rfl, rfl, b, d, ds, _, ln, lc, ns, cs, e, argT b ln lc e, s2.box, hN.bs hB s2, hC.bs hB s2, he, fun H3 v3 m3 t3 y3 tv3 dr3 => ?_⟩
      have s3 := s2.trans y3
      refine ⟨_, rfl, _, rfl, _, rfl, _, rfl, _, rfl, _, rfl, _, _, rfl, rfl, b, d, ds, _, ln, lc, ns, cs, e, argT b ln lc e, s3.box, hN.bs hB s3, hC.bs hB s3, he, fun H4 v4 m4 t4 y4 tv4 dr4 => ⟨by show 4 ≤ sizeLine; decide, fun p np => ?_⟩⟩
      refine q _ _ _ (.ite t2 t3 t4) ((s3.trans y4).new np) ?_ (.ite dr2 dr3 dr4)
      rw [TV]
      exact ⟨p, v2, v3, v4, rfl, upd_same, TV.imp (newtup np) t2 v2 (tv2.bs y2.box (y3.trans y4)), TV.imp (newtup np) t3 v3 (tv3.bs y3.box y4), TV.imp (newtup np) t4 v4 tv4⟩
    refine ⟨_, rfl, ln, rfl, ⟨_, SqL.of N1.at_⟩, fun D nD => ?_⟩
    have nDb : D ≠ b := s1.nb nD
    refine lc_list (K := K) (a := ln) (xs := ns.map fun l => V.str (S l)) (fun i H' => ∃ pl : List (List Nat), H' D = some (.lst (pl.map fun l => V.str (S l))) ∧ (∀ l ∈ pl, l ∈ ns) ∧ pl.length ≤ i ∧ Bs b d ds H H' (m0 + 1))
      ⟨[], upd_same, fun l hl => (by cases hl), Nat.le_refl _, s1.new nD⟩ (fun i H' _ ⟨pl, _, _, _, sx⟩ => SqL.of (hN.bs hB sx).at_) (fun i x H' hx ⟨pl, eD, hm, hl, sx⟩ => ?_) (fun H' ⟨pl, eD, hm, hl, sx⟩ => ?_)
    · obtain ⟨z, ez, rfl⟩ : ∃ z, ns[i]? = some z ∧ x = .str (S z) := by
        rw [List.getElem?_map] at hx
        obtain ⟨z, h1, h2⟩ := Option.map_eq_some_iff.mp hx
        exact ⟨z, h1, h2.symm⟩
      refine ⟨rfl, _, rfl, two_le, fun u nu => ⟨u, _, rfl, .inr (SqT.of upd_same), rfl, rfl, _, rfl, ?_⟩⟩
      have eD2 : upd H' u (.tup [.str "p", .str "q"]) D = some (.lst (pl.map fun l => V.str (S l))) := by rw [upd_ne (ne_of_none eD nu)]; exact eD
      have sy := sx.new (o := .tup [.str "p", .str "q"]) nu
      refine ite2 (fun _ => ?_) (fun _ => ?_)
      · have li : i < ns.length := (List.getElem?_eq_some_iff.mp ez).1
        have sm := hN.sm
        refine ⟨_, rfl, _, eD2, ?_, pl ++ [z], ?_, fun l hl => ?_, ?_, sy.wr hB (s1.free D nD)⟩
        · rw [List.length_map]; exact Nat.lt_of_le_of_lt (show pl.length ≤ 500 by omega) (by decide)
        · rw [upd_same, List.map_append]; rfl
        · rcases List.mem_append.mp hl with hl | hl
          · exact hm l hl
          · rw [List.mem_singleton.mp hl]; exact List.mem_of_getElem? ez
        · rw [List.length_append, List.length_singleton]; omega
      · exact ⟨pl, eD2, hm, by omega, sy⟩
    have nsm := hN.sm
    rw [List.length_map] at hl
    have PL : Nam H' D pl := ⟨eD, fun l h => hN.ok l (hm l h), by omega⟩
    refine ⟨_, rfl, rfl, _, rfl, ite2 (fun h => ?names) (fun h => iteF ⟨_, rfl, rfl, _, rfl, ?g1⟩)⟩
    case' g1 => have sz := sx
    case' names =>
      refine ⟨_, rfl, Nat.zero_le _, fun l nl => ?_⟩
      have s2 := sx.new (o := .lst []) nl
      have y2 := (Bs.refl sx.box).new (o := .lst []) nl
      have P2 := PL.bs sx.box y2
      obtain ⟨B, fit⟩ := fit_names PL.ok
      refine ⟨_, _, .lst (SqL.of P2.at_) (dp_names (ns := pl) pl), .lst (SqL.of upd_same) .nil, fit.shaped (by decide), fit_nil.shaped (by decide), _, rfl, ?_⟩
      rw [eqv_nil]
      rcases pl with _ | ⟨x, r9⟩
      rotate_left
      · refine iteT ?_
        refine ⟨_, rfl, _, rfl, _, rfl, D, _, rfl, .inl (SqL.of P2.at_), b, d, ds, _, _, rfl, s2.box, ?_, fun r3 h4 h5 => ?_⟩
        · rw [List.length_map, List.length_cons]; omega
        have s3 := s2.draw
        rw [List.length_map] at h5
        obtain ⟨j, rfl, hj⟩ := idx h4 h5
        obtain ⟨z, ez⟩ : ∃ z, (x :: r9)[j]? = some z := ⟨_, List.getElem?_eq_getElem hj⟩
        have P3 := P2.bs s2.box (Bs.draw (Bs.refl s2.box))
        refine ⟨D, _, _, .str (S z), rfl, rfl, SqL.of P3.at_, atI_nat (by rw [List.getElem?_map, ez]; rfl), ?_⟩
        refine ⟨_, rfl, _, rfl, _, rfl, _, rfl, _, _, rfl, rfl, b, d, ds, _, ln, lc, ns, cs, e, argT b ln lc e, s3.box, hN.bs hB s3, hC.bs hB s3, he, fun H3 v3 m3 t3 y3 tv3 dr3 => ⟨three_le, fun p np => ?_⟩⟩
        have g := PL.ok z (List.mem_of_getElem? ez)
        refine q _ _ _ (.set z t3) ((s3.trans y3).new np) ?_ (.set g.1 g.2 dr3)
        rw [TV]
        exact ⟨p, v3, rfl, upd_same, TV.imp (newtup np) t3 v3 tv3⟩
      refine iteF ⟨_, rfl, rfl, _, rfl, ?_⟩
      have sz := s2
    all_goals (
      have Nz := hN.bs hB sz
      have Cz := hC.bs hB sz
      refine ite2 (fun h => ?_) (fun h => ?_))
    all_goals try (
      refine ⟨_, rfl, _, rfl, _, rfl, _, rfl, _, _, rfl, rfl, b, d, ds, _, ln, lc, ns, cs, e, argT b ln lc e, sz.box, Nz, Cz, he, fun H2 v2 m2 t2 y2 tv2 dr2 => ?_⟩
      have s2 := sz.trans y2
      refine ⟨_, rfl, _, rfl, _, rfl, _, rfl, _, rfl, _, _, rfl, rfl, b, d, ds, _, ln, lc, ns, cs, e, argT b ln lc e, s2.box, hN.bs hB s2, hC.bs hB s2, he, fun H3 v3 m3 t3 y3 tv3 dr3 => ⟨three_le, fun p np => ?_⟩⟩
      refine q _ _ _ (.seq t2 t3) ((s2.trans y3).new np) ?_ (.seq dr2 dr3)
      rw [TV]
      exact ⟨p, v2, v3, rfl, upd_same, TV.imp (newtup np) t2 v2 (tv2.bs y2.box y3), TV.imp (newtup np) t3 v3 tv3⟩)
    all_goals (
      refine ⟨_, rfl, Nat.zero_le _, fun l nl => ?_⟩
      have s2 := sz.new (o := .lst []) nl
      have y2 := (Bs.refl sz.box).new (o := .lst []) nl
      have C2 := Cz.bs sz.box y2
      have N2 := Nz.bs sz.box y2
      obtain ⟨vs, c1, c2⟩ := C2.ex
      obtain ⟨dd, B, d1, d2, fit⟩ := fit_calls (K := K) c2 C2.ok
      refine ⟨_, _, .lst (SqL.of c1) d1, .lst (SqL.of upd_same) .nil, fit.shaped (by decide), fit_nil.shaped (by decide), _, rfl, ?_⟩
      rw [eqv_nil, d2]
      rcases cs with _ | ⟨c, cr⟩
      · exact iteT ⟨_, rfl, _, rfl, b, d, ds, _, ln, ns, rfl, s2.box, N2, fun H' v n' t y tv dr => q H' v n' t (s2.trans y) tv (dr.more (Nat.zero_le _))⟩
      refine iteF ?_
      have vl : vs.length = (c :: cr).length := Paired.length c2
      refine ⟨_, rfl, _, rfl, _, rfl, lc, _, rfl, .inl (SqL.of c1), b, d, ds, _, _, rfl, s2.box, ?_, fun r3 h4 h5 => ?_⟩
      · rw [vl, List.length_cons]; omega
      have s3 := s2.draw
      rw [vl] at h5
      obtain ⟨j, rfl, hj⟩ := idx h4 h5
      obtain ⟨z, ez⟩ : ∃ z, (c :: cr)[j]? = some z := ⟨_, List.getElem?_eq_getElem hj⟩
      have C3 := C2.bs s2.box (Bs.draw (Bs.refl s2.box))
      obtain ⟨vs3, k1, k2⟩ := C3.ex
      obtain ⟨v9, e9, q9, rfl, h9⟩ := pairGet k2 ez
      obtain ⟨g1, g2, g3⟩ := C2.ok z (List.mem_of_getElem? ez)
      refine ⟨lc, _, _, _, rfl, rfl, SqL.of k1, atI_nat e9, q9, _, rfl, SqT.of h9, rfl, _, _, rfl, _, _, rfl, rfl, ?_⟩
      refine ⟨_, rfl, _, rfl, _, rfl, by omega, by omega, fun D2 nD2 => ?_⟩
      have s4 := s3.new (o := .lst []) nD2
      refine lc_range (lo := 0) (n := ((z.2 : Nat) : Int).toNat) (fun i H' => ∃ (ws : List V) (ts : List Tr) (n' : Nat), Bs b d ds H H' n' ∧ H' D2 = some (.lst ws) ∧ TVs H' ts ws ∧ (∀ t ∈ ts, Dr e t) ∧ ts.length = i)
        ⟨[], [], _, s4, upd_same, (by rw [TVs]), (fun t ht => by cases ht), rfl⟩ (fun i H' hi ⟨ws, ts, n', s5, eD, tvs, dr, ln5⟩ => ?_) (fun H' ⟨ws, ts, n', s5, eD, tvs, dr, ln5⟩ => ?_)
      · refine ⟨rfl, _, rfl, _, rfl, _, rfl, _, rfl, _, _, rfl, rfl, b, d, ds, _, ln, lc, ns, _ :: _, e, argT b ln lc e, s5.box, hN.bs hB s5, hC.bs hB s5, he, fun H3 v3 m3 t3 y3 tv3 dr3 => ?_⟩
        have e3 : H3 D2 = some (.lst ws) := y3.bx _ _ (s3.nb nD2) eD
        have wl := TVs.len tvs
        have kt : ∀ o, ∀ q xs, H3 q = some (.tup xs) → upd H3 D2 (.lst o) q = some (.tup xs) := fun o q xs hq => by rw [upd_ne (ne_of hq e3 (by intro z; cases z))]; exact hq
        refine ⟨ws, e3, ?_, ws ++ [v3], ts ++ [t3], m3, (s5.trans y3).wr hB (s3.free D2 nD2), upd_same, ?_, fun t ht => ?_, ?_⟩
        · rw [wl]; exact Nat.lt_of_le_of_lt (show ts.length ≤ 500 by omega) (by decide)
        · exact TVs.snoc (TV.imp (kt _) t3 v3 tv3) (TVs.imp (kt _) ts ws (TVs.imp (Bs.tup y3 s5.box) ts ws tvs))
        · rcases List.mem_append.mp ht with ht | ht
          · exact dr t ht
          · rw [List.mem_singleton.mp ht]; exact dr3
        · rw [List.length_append, List.length_singleton]; omega
      · refine ⟨D2, ws, rfl, .inl ⟨SqL.of eD, fun p np => ⟨three_le, fun p2 np2 => ?_⟩⟩⟩
        have s6 := (s5.new (o := .tup ws) np).new (o := .tup [.str "call", .str (S z.1), .ref p]) np2
        refine q _ _ _ (.call z.1 ts) s6 ?_ (.call g1 g2 (by omega) dr)
        rw [TV]
        exact ⟨p2, p, ws, rfl, upd_same, newtup np2 _ _ upd_same, TVs.imp (newtup np2) ts ws (TVs.imp (newtup np) ts ws tvs), by omega⟩)
theorem ok_tree {f f1 f2 : Addr} {fd fd1 fd2 : FuncData} (F : Fun K "_law_tree" "_law_tree" sTree f fd) (T : Txt K mg) (T2 : Txt2 mg) (FD : FO P w K mg base CX0 1 "_law_draw" ["box", "many"] spDraw f1 fd1)
    (FA : FO P w K mg base CX0 2 "_law_atom" ["box", "names"] spAtom f2 fd2) (m : mg "_law_tree" = some (.ref f)) (kp : PySem.W.keepIn K (.ref f) = true) (bi : Binds K fd ["box", "names", "calls", "depth"] []) :
    ∀ n, FnOk P w K mg base CX0 (2 + n) f fd ["box", "names", "calls", "depth"] (spTr n)
  | 0 => ⟨fun vs H Q E h => by obtain ⟨b, d, ds, m, ln, lc, ns, cs, dep, rfl, _⟩ := h; rfl, fun A outer s H args us vs Q E hr e b v h => by
      obtain ⟨b, d, ds, m, ln, lc, ns, cs, dep, rfl, _, _, _, hd, _⟩ := h
      omega⟩
  | n + 1 => ok_tree1 F T T2 FD FA m kp bi (ok_tree F T T2 FD FA m kp bi n)
end
end K3

set_option maxRecDepth 100000
set_option maxHeartbeats 8000000
namespace K3
open PySem hiding Tok code
open PySem.Spec PyProof.Rows GD K1
open L2 hiding rest
open K2 hiding Sp P
def bT : Nat → Nat
  | 0 => 252
  | d + 1 => 9 * bT d + 60
theorem bT_ge : ∀ d, 252 ≤ bT d
  | 0 => Nat.le_refl _
  | d + 1 => by have := bT_ge d; rw [bT]; omega
theorem litFit (z : Str) (h : (decide (z.length ≤ 6) && z.cps.toList.all fun c => decide (c < 1000)) = true) : Fit (.str z) 0 62 := by
  rw [Bool.and_eq_true] at h
  exact Fit.str (n := 6) (of_decide_eq_true h.1) fun c hc => of_decide_eq_true (List.all_eq_true.mp h.2 c hc)
theorem nameFit {l : List Nat} (h1 : nmB l = true) (h2 : l.length ≤ 6) : Fit (.str (S l)) 0 62 := by
  refine Fit.strS (n := 6) h2 fun c hc => ?_
  have g := (nmB_good h1).2.2 c hc
  have : ∀ c ∈ LET, c < 1000 := by decide
  exact this c g
theorem mem2 {α : Type} {P : α → Prop} {a b : α} (h1 : P a) (h2 : P b) : ∀ x ∈ [a, b], P x := fun x hx => by
  simp only [List.mem_cons, List.not_mem_nil, or_false] at hx
  rcases hx with rfl | rfl <;> assumption
theorem mem3 {α : Type} {P : α → Prop} {a b c : α} (h1 : P a) (h2 : P b) (h3 : P c) : ∀ x ∈ [a, b, c], P x := fun x hx => by
  simp only [List.mem_cons, List.not_mem_nil, or_false] at hx
  rcases hx with rfl | rfl | rfl <;> assumption
theorem mem4 {α : Type} {P : α → Prop} {a b c d : α} (h1 : P a) (h2 : P b) (h3 : P c) (h4 : P d) : ∀ x ∈ [a, b, c, d], P x := fun x hx => by
  simp only [List.mem_cons, List.not_mem_nil, or_false] at hx
  rcases hx with rfl | rfl | rfl | rfl <;> assumption
theorem treeDs_map : ∀ as : List Tr, treeDs as = as.map treeD
  | [] => by rw [treeDs]; rfl
  | t :: ts => by rw [treeDs, treeDs_map ts]; rfl
theorem dr_fit {d : Nat} {t : Tr} (h : Dr d t) : Fit (treeD t) (2 * d + 1) (bT d) := by
  have two : ∀ {z : Str} {y : PyData} (d : Nat), (decide (z.length ≤ 6) && z.cps.toList.all fun c => decide (c < 1000)) = true → Fit y 0 122 → Fit (.tuple [.str z, y]) (2 * d + 1) (bT d) := fun {z y} d hz hy => by
    have := bT_ge d
    exact (Fit.tup (k := 0) (B := 122) (mem2 ((litFit z hz).more (Nat.le_refl _) (by decide)) hy)).more (by omega) (by simp only [List.length_cons, List.length_nil]; omega)
  induction h with
  | @num d n h => rw [treeD]; exact two d (by decide +kernel) ((Fit.num h).more (Nat.le_refl _) (by decide))
  | @str d l h k =>
    rw [treeD]
    exact two d (by decide +kernel) (Fit.strS (n := 12) h fun c hc => by
      have := k c hc
      unfold mayB at this
      have := of_decide_eq_true this
      omega)
  | @name d l h k => rw [treeD]; exact two d (by decide +kernel) ((nameFit h k).more (Nat.le_refl _) (by decide))
  | @call d f as h k l hs ih =>
    have hb := bT_ge d
    rw [treeD, treeDs_map]
    have f1 : Fit (.tuple (as.map treeD)) (2 * d + 1 + 1) (3 * bT d + 10) := by
      refine (Fit.tup (k := 2 * d + 1) (B := bT d) fun x hx => ?_).more (Nat.le_refl _) ?_
      · obtain ⟨t, ht, rfl⟩ := List.mem_map.mp hx
        exact ih t ht
      · rw [List.length_map]
        have : as.length * (bT d + 2) ≤ 3 * (bT d + 2) := Nat.mul_le_mul_right _ l
        omega
    refine (Fit.tup (mem3 ((litFit "call" (by decide +kernel)).more (Nat.zero_le _) (by omega)) ((nameFit h k).more (Nat.zero_le _) (by omega)) f1)).more (by omega) ?_
    rw [bT]
    simp only [List.length_cons, List.length_nil]
    omega
  | @ite d x y z hx hy hz i j k =>
    have hb := bT_ge d
    rw [treeD]
    refine (Fit.tup (mem4 ((litFit "if" (by decide +kernel)).more (Nat.zero_le _) (by omega)) i j k)).more (by omega) ?_
    rw [bT]
    simp only [List.length_cons, List.length_nil]
    omega
  | @set d x t h k ht i =>
    have hb := bT_ge d
    rw [treeD]
    refine (Fit.tup (mem3 ((litFit "set" (by decide +kernel)).more (Nat.zero_le _) (by omega)) ((nameFit h k).more (Nat.zero_le _) (by omega)) i)).more (by omega) ?_
    rw [bT]
    simp only [List.length_cons, List.length_nil]
    omega
  | @seq d x y hx hy i j =>
    have hb := bT_ge d
    rw [treeD]
    refine (Fit.tup (mem3 ((litFit "then" (by decide +kernel)).more (Nat.zero_le _) (by omega)) i j)).more (by omega) ?_
    rw [bT]
    simp only [List.length_cons, List.length_nil]
    omega
  | @op d c x y hc hx hy i j =>
    have hb := bT_ge d
    rw [treeD]
    have hs : ∀ c ∈ [42, 43, 45, 60, 61], (decide ((S [c]).length ≤ 6) && (S [c]).cps.toList.all fun c => decide (c < 1000)) = true := by decide +kernel
    refine (Fit.tup (mem3 ((litFit _ (hs c hc)).more (Nat.zero_le _) (by omega)) i j)).more (by omega) ?_
    rw [bT]
    simp only [List.length_cons, List.length_nil]
    omega
theorem alikeOk {d : PyData} {k B : Nat} (f : Fit d k B) (hn : d ≠ .none) (hk : k ≤ 60) (hB : B ≤ 16000000) : d ≠ .none ∧ d.showable = true ∧ d.hasDict = false ∧ d.depth ≤ 60 ∧ d.shown.length ≤ sizeLine :=
  ⟨hn, f.sh, f.nd, Nat.le_trans f.dp hk, Nat.le_trans f.ln (Nat.le_trans hB (by decide))⟩
end K3

set_option maxRecDepth 100000
set_option maxHeartbeats 8000000
/-! drawn modules: own names, imports -/
namespace K3
open PySem hiding Tok code
open PySem.Spec PyProof.Rows GD K1
open L2 hiding rest
open K2 hiding Sp P
abbrev sOwn : Stmt := topS 21
abbrev sImports : Stmt := topS 22
abbrev NM := List Nat
/-- a list of pairs of texts -/
def PL (H : Hp) (ws : List V) (ps : List (NM × NM)) : Prop := Paired (fun v (p : NM × NM) => ∃ q, v = .ref q ∧ H q = some (.tup [.str (S p.1), .str (S p.2)])) ws ps
theorem PL.imp {H H' : Hp} {ws : List V} {ps : List (NM × NM)} (k : ∀ q xs, H q = some (.tup xs) → H' q = some (.tup xs)) (h : PL H ws ps) : PL H' ws ps := pairImp (fun v p ⟨q, e, hq⟩ => ⟨q, e, k _ _ hq⟩) h
/-- import lines -/
def ILs (H : Hp) (ws : List V) (il : List (List (NM × NM) × NM)) : Prop := Paired (fun v (l : List (NM × NM) × NM) => ∃ q a us, v = .ref q ∧ H q = some (.tup [.str "import", .ref a, .str (S l.2)]) ∧ H a = some (.tup us) ∧ PL H us l.1) ws il
theorem ILs.imp {H H' : Hp} {ws : List V} {il : List (List (NM × NM) × NM)} (k : ∀ q xs, H q = some (.tup xs) → H' q = some (.tup xs)) (h : ILs H ws il) : ILs H' ws il :=
  pairImp (fun v p ⟨q, a, us, e, h1, h2, h3⟩ => ⟨q, a, us, e, k _ _ h1, k _ _ h2, h3.imp k⟩) h
def ownM (c : NM) : List (NM × NM) := [(120 :: c, code "let"), (121 :: c, code "let"), (107 :: c, code "keep"), (102 :: c, code "fn"), (103 :: c, code "fn")]
def ownN (c : NM) : List NM := [120 :: c, 121 :: c, 107 :: c, 102 :: c, 103 :: c]
def mods4 : List NM := [[97], [98], [99], [100]]
theorem inV_strs (x : NM) : ∀ l : List NM, inV (.str (S x)) (l.map fun l => V.str (S l)) = decide (x ∈ l)
  | [] => rfl
  | y :: l => by
    have ih := inV_strs x l
    unfold inV at ih ⊢
    rw [List.map_cons, List.any_cons, ih]
    have e : eqV (.str (S y)) (.str (S x)) = decide (y = x) := by
      show (S y == S x) = _
      by_cases h : y = x
      · rw [h, decide_eq_true rfl]; exact beq_self_eq_true _
      · rw [decide_eq_false h]; exact beq_eq_false_iff_ne.mpr fun z => h (S_inj z)
    rw [e]
    by_cases h : y = x
    · rw [decide_eq_true h, h]; simp
    · rw [decide_eq_false h, Bool.false_or]
      have : (x ∈ y :: l) ↔ x ∈ l := by simp [show ¬ x = y from fun z => h z.symm]
      exact decide_eq_decide.mpr this.symm
theorem flat_strs : ∀ l : List NM, (l.map fun l => V.str (S l)).all flatV = true
  | [] => rfl
  | y :: l => by rw [List.map_cons, List.all_cons, flat_strs l]; rfl
theorem addLe {x y : Str} {m n : Nat} (h1 : x.length ≤ m) (h2 : y.length ≤ n) (h : m + n ≤ 1000000) : x.length + y.length ≤ sizeLine := Nat.le_trans (Nat.le_trans (Nat.add_le_add h1 h2) h) (by decide)
theorem SLe {l : List Nat} {n : Nat} (h : l.length ≤ n) : (S l).length ≤ n := by rw [S_len]; exact h
theorem litLe {x : Str} {n : Nat} (h : decide (x.length ≤ n) = true) : x.length ≤ n := of_decide_eq_true h
theorem Same.up {H H' : Hp} {x : Addr} {o : HO} (s : Same H H') (n : H' x = none) : Same H (upd H' x o) := fun b u e => by rw [upd_ne (ne_of_none (s b u e) n)]; exact s b u e
theorem same_tup {H H' : Hp} (s : Same H H') : ∀ q xs, H q = some (.tup xs) → H' q = some (.tup xs) := fun q xs e => s q _ e
theorem _root_.K1.Bs.same {b d : Addr} {ds : List Int} {H H' H2 : Hp} {n : Nat} (h : Bs b d ds H H' n) (s : Same H' H2) : Bs b d ds H H2 n :=
  ⟨fun c o nc hc => s _ _ (h.bx c o nc hc), ⟨s _ _ h.box.1, s _ _ h.box.2.1, h.box.2.2⟩, fun c hc => h.free c (by
    cases e : H' c with
    | none => rfl
    | some o => rw [s _ _ e] at hc; cases hc)⟩
section
variable {P : Program} {w : World} {K : PySem.W.Frag} {mg : Str → Option Value} {base : Heap}
def spOwn : L2.Sp := fun vs H Q _ => ∃ c : NM, vs = [.str (S c)] ∧ c.length ≤ 6 ∧ ∀ H' D ws, Same H H' → H D = none → H' D = some (.lst ws) → PL H' ws (ownM c) → Q (.ref D) H'
theorem scOwn : FnScope ["name"] ["name"] (defScope sOwn) := ⟨rfl, rfl, rfl, by decide +kernel, rfl, by decide +kernel, by decide +kernel⟩
theorem ok_own {f : Addr} {fd : FuncData} (F : Fun K "_law_own" "_law_own" sOwn f fd) : FnOk P w K mg base CX0 1 f fd ["name"] spOwn := by
  have sc := scOwn
  refine F.ok sc (fun vs H Q E h => ?_) (fun cdv A outer s H vs Q E hr h => ?_)
  · obtain ⟨c, rfl, _⟩ := h
    rfl
  · obtain ⟨c, rfl, hc, q⟩ := h
    refine ⟨_, (pss_one (ps_ret (pe_lst (pa_cons (pe_tup (pa_cons (pe_op op_add_str pe_str (pv 0)) (pa_cons pe_str pa_nil))) (pa_cons (pe_tup (pa_cons (pe_op op_add_str pe_str (pv 0)) (pa_cons pe_str pa_nil))) (pa_cons (pe_tup (pa_cons (pe_op op_add_str pe_str (pv 0)) (pa_cons pe_str pa_nil))) (pa_cons (pe_tup (pa_cons (pe_op op_add_str pe_str (pv 0)) (pa_cons pe_str pa_nil))) (pa_cons (pe_tup (pa_cons (pe_op op_add_str pe_str (pv 0)) (pa_cons pe_str pa_nil))) pa_nil)))))))), ?_⟩
    have ad : ∀ z : Str, z.length ≤ 1 → z.length + (S c).length ≤ sizeLine := fun z h => addLe h (SLe hc) (by decide)
    refine ⟨_, rfl, _, _, rfl, rfl, ad _ (by decide), two_le, fun p1 n1 => ?_⟩
    refine ⟨_, rfl, _, _, rfl, rfl, ad _ (by decide), two_le, fun p2 n2 => ?_⟩
    refine ⟨_, rfl, _, _, rfl, rfl, ad _ (by decide), two_le, fun p3 n3 => ?_⟩
    refine ⟨_, rfl, _, _, rfl, rfl, ad _ (by decide), two_le, fun p4 n4 => ?_⟩
    refine ⟨_, rfl, _, _, rfl, rfl, ad _ (by decide), two_le, fun p5 n5 => ?_⟩
    refine ⟨by show 5 ≤ sizeLine; decide, fun D nD => ?_⟩
    have s1 := Same.up (o := .tup [.str (Str.ofString "x" ++ S c), .str "let"]) (Same.refl H) n1
    have s2 := Same.up (o := .tup [.str (Str.ofString "y" ++ S c), .str "let"]) (Same.refl _) n2
    have s3 := Same.up (o := .tup [.str (Str.ofString "k" ++ S c), .str "keep"]) (Same.refl _) n3
    have s4 := Same.up (o := .tup [.str (Str.ofString "f" ++ S c), .str "fn"]) (Same.refl _) n4
    have s5 := Same.up (o := .tup [.str (Str.ofString "g" ++ S c), .str "fn"]) (Same.refl _) n5
    have s6 := Same.up (o := .lst [.ref p1, .ref p2, .ref p3, .ref p4, .ref p5]) (Same.refl _) nD
    have e5 := s6 _ _ (upd_same (H := _) (a := p5) (o := .tup [.str (Str.ofString "g" ++ S c), .str "fn"]))
    have e4 := s6 _ _ (s5 _ _ (upd_same (a := p4) (o := .tup [.str (Str.ofString "f" ++ S c), .str "fn"])))
    have e3 := s6 _ _ (s5 _ _ (s4 _ _ (upd_same (a := p3) (o := .tup [.str (Str.ofString "k" ++ S c), .str "keep"]))))
    have e2 := s6 _ _ (s5 _ _ (s4 _ _ (s3 _ _ (upd_same (a := p2) (o := .tup [.str (Str.ofString "y" ++ S c), .str "let"])))))
    have e1 := s6 _ _ (s5 _ _ (s4 _ _ (s3 _ _ (s2 _ _ (upd_same (a := p1) (o := .tup [.str (Str.ofString "x" ++ S c), .str "let"]))))))
    have sE : Same H _ := fun b o h => s6 _ _ (s5 _ _ (s4 _ _ (s3 _ _ (s2 _ _ (s1 _ _ h)))))
    have cat : ∀ x : Nat, S [x] ++ S c = S (x :: c) := fun x => S_app [x] c
    refine q _ D _ sE ?_ upd_same (.cons ⟨p1, rfl, ?_⟩ (.cons ⟨p2, rfl, ?_⟩ (.cons ⟨p3, rfl, ?_⟩ (.cons ⟨p4, rfl, ?_⟩ (.cons ⟨p5, rfl, ?_⟩ .nil)))))
    · cases e : H D with
      | none => rfl
      | some o =>
        have := s5 _ _ (s4 _ _ (s3 _ _ (s2 _ _ (s1 _ _ e))))
        rw [nD] at this
        cases this
    · rw [← cat]; exact e1
    · rw [← cat]; exact e2
    · rw [← cat]; exact e3
    · rw [← cat]; exact e4
    · rw [← cat]; exact e5
end
end K3

set_option maxRecDepth 100000
set_option maxHeartbeats 16000000
/-! drawn modules: imports -/
namespace K3
open PySem hiding Tok code
open PySem.Spec PyProof.Rows GD K1
open L2 hiding rest
open K2 hiding Sp P
def okN (x : NM) : Prop := nmB x = true ∧ x.length ≤ 6
theorem own_ok : ∀ o ∈ mods4, ∀ p ∈ ownM o, nmB p.1 = true ∧ p.1.length ≤ 5 ∧ nmB (122 :: p.1) = true := by decide +kernel
theorem pl_dp {K : PySem.W.Frag} {H : Hp} {ws : List V} {ps : List (NM × NM)} (h : PL H ws ps) (ok : ∀ p ∈ ps, okN p.1 ∧ okN p.2) : ∃ ds, DpAll K H ws ds ∧ ds.isEmpty = ps.isEmpty ∧ ∀ x ∈ ds, Fit x 1 132 := by
  induction h with
  | nil => exact ⟨[], .nil, rfl, fun x hx => by cases hx⟩
  | @cons v p vs ps r _ ih =>
    obtain ⟨ds, h1, _, h3⟩ := ih fun x hx => ok x (List.mem_cons_of_mem _ hx)
    obtain ⟨q, rfl, hq⟩ := r
    obtain ⟨o1, o2⟩ := ok p List.mem_cons_self
    refine ⟨.tuple [.str (S p.1), .str (S p.2)] :: ds, .cons (.tup (SqT.of hq) (.cons (.str _) (.cons (.str _) .nil))) h1, rfl, fun x hx => ?_⟩
    rcases List.mem_cons.mp hx with rfl | hx
    · exact (Fit.tup (mem2 (nameFit o1.1 o1.2) (nameFit o2.1 o2.2))).more (Nat.le_refl _) (show 2 * 64 + 4 ≤ 132 by decide)
    · exact h3 x hx
/-- which import lines are drawn -/
structure ImpP (nm : NM) (os : List NM) (il : List (List (NM × NM) × NM)) : Prop where
  mem : ∀ l ∈ il, l.2 ∈ os ∧ l.2 ≠ nm ∧ l.1 ≠ [] ∧ l.1.length ≤ 3 ∧ ∀ p ∈ l.1, p.1 ∈ ownN l.2 ∧ (p.2 = p.1 ∨ p.2 = 122 :: p.1)
  nd : (il.flatMap fun l => l.1.map (·.2)).Nodup
theorem pairGetR {α β : Type} {R : α → β → Prop} {l : List α} {m : List β} (h : Paired R l m) : ∀ {i : Nat} {x : α}, l[i]? = some x → ∃ y, m[i]? = some y ∧ R x y := by
  induction h with
  | nil => intro i x h; cases h
  | @cons a b l m r _ ih =>
    intro i x h
    cases i with
    | zero => cases h; exact ⟨b, rfl, r⟩
    | succ i => exact ih h
theorem flat_len : ∀ {il : List (List (NM × NM) × NM)}, (∀ l ∈ il, l.1.length ≤ 3) → (il.flatMap fun l => l.1.map (·.2)).length ≤ 3 * il.length
  | [], _ => Nat.le_refl _
  | l :: il, h => by
    have h1 := h l List.mem_cons_self
    have h2 := flat_len (il := il) fun x hx => h x (List.mem_cons_of_mem _ hx)
    rw [List.flatMap_cons, List.length_append, List.length_map, List.length_cons]
    omega
theorem pairSnoc {α β : Type} {R : α → β → Prop} {l : List α} {m : List β} {a : α} {b : β} (h : Paired R l m) (r : R a b) : Paired R (l ++ [a]) (m ++ [b]) := by
  induction h with
  | nil => exact .cons r .nil
  | cons x _ ih => exact .cons x ih
theorem own_fst (o : NM) {p : NM × NM} (h : p ∈ ownM o) : p.1 ∈ ownN o := by
  simp only [ownM, List.mem_cons, List.not_mem_nil, or_false] at h
  rcases h with rfl | rfl | rfl | rfl | rfl <;> simp [ownN]
theorem own_okN {o : NM} (ho : o ∈ mods4) {x y : NM} (h : x ∈ ownN o) (hy : y = x ∨ y = 122 :: x) : okN x ∧ okN y := by
  have : ∀ o ∈ mods4, ∀ x ∈ ownN o, nmB x = true ∧ x.length ≤ 5 ∧ nmB (122 :: x) = true := by decide +kernel
  obtain ⟨h1, h2, h3⟩ := this o ho x h
  refine ⟨⟨h1, by omega⟩, ?_⟩
  rcases hy with rfl | rfl
  · exact ⟨h1, by omega⟩
  · exact ⟨h3, by simp; omega⟩
/-- what stands while the pairs of one import line are drawn -/
structure IV (b Dl Dt Dp Do : Addr) (lw : List V) (il : List (List (NM × NM) × NM)) (tk : List NM) (pw : List V) (ps : List (NM × NM)) (ow : List V) (om : List (NM × NM)) (H : Hp) : Prop where
  l : H Dl = some (.lst lw)
  il_ : ILs H lw il
  t : H Dt = some (.lst (tk.map fun l => V.str (S l)))
  p : H Dp = some (.lst pw)
  pl : PL H pw ps
  o : H Do = some (.lst ow)
  ol : PL H ow om
  nl : Dl ≠ b
  nt : Dt ≠ b
  np : Dp ≠ b
  no : Do ≠ b
  d1 : Dl ≠ Dt
  d2 : Dl ≠ Dp
  d3 : Dt ≠ Dp
  d4 : Do ≠ Dl
  d5 : Do ≠ Dt
  d6 : Do ≠ Dp
theorem IV.bs {b d Dl Dt Dp Do : Addr} {ds : List Int} {n n' : Nat} {lw il tk pw ps ow om} {H H' : Hp} (v : IV b Dl Dt Dp Do lw il tk pw ps ow om H) (x : Box H b d ds n) (y : Bs b d ds H H' n') : IV b Dl Dt Dp Do lw il tk pw ps ow om H' :=
  ⟨y.bx _ _ v.nl v.l, v.il_.imp (Bs.tup y x), y.bx _ _ v.nt v.t, y.bx _ _ v.np v.p, v.pl.imp (Bs.tup y x), y.bx _ _ v.no v.o, v.ol.imp (Bs.tup y x), v.nl, v.nt, v.np, v.no, v.d1, v.d2, v.d3, v.d4, v.d5, v.d6⟩
theorem box_lst {b d : Addr} {ds : List Int} {H : Hp} {n : Nat} (x : Box H b d ds n) {D : Addr} (h : H D = none) : D ≠ b := (ne_of_none x.1 h).symm
theorem tup_lst {H : Hp} {D : Addr} {xs ys : List V} (e : H D = some (.lst xs)) : ∀ q us, H q = some (.tup us) → upd H D (.lst ys) q = some (.tup us) := fun q us hq => by rw [upd_ne (ne_of hq e (by intro z; cases z))]; exact hq
section
variable {P : Program} {w : World} {K : PySem.W.Frag} {mg : Str → Option Value} {base : Heap}
def spImp : L2.Sp := fun vs H Q _ => ∃ (b d : Addr) (ds : List Int) (n : Nat) (nm : NM) (lo : Addr) (os : List NM), vs = [.ref b, .str (S nm), .ref lo] ∧ Box H b d ds n ∧ Nam H lo os ∧ (∀ o ∈ os, o ∈ mods4) ∧ os.length ≤ 4 ∧
  ∀ H' n' D ws il, Bs b d ds H H' n' → H D = none → H' D = some (.lst ws) → ILs H' ws il → ImpP nm os il → il.length ≤ os.length → Q (.ref D) H'
theorem scImp : FnScope ["box", "name", "others", "lines", "taken", "other", "wanted", "pairs", "own", "kind", "called"] ["box", "name", "others"] (defScope sImports) := ⟨rfl, rfl, rfl, by decide +kernel, rfl, by decide +kernel, by decide +kernel⟩
theorem ok_imports {f f1 f2 : Addr} {fd fd1 fd2 : FuncData} (F : Fun K "_law_imports" "_law_imports" sImports f fd) (T : Txt K mg) (T2 : Txt2 mg) (FD : FO P w K mg base CX0 1 "_law_draw" ["box", "many"] spDraw f1 fd1)
    (FO : FO P w K mg base CX0 1 "_law_own" ["name"] spOwn f2 fd2) : FnOk P w K mg base CX0 2 f fd ["box", "name", "others"] spImp := by
  have sc := scImp
  refine F.ok sc (fun vs H Q E h => ?_) (fun cdv A outer s H vs Q E hr h => ?_)
  · obtain ⟨b, d, ds, n, nm, lo, os, rfl, _⟩ := h
    rfl
  · obtain ⟨b, d, ds, n, nm, lo, os, rfl, hB, hN, hO, hL, q⟩ := h
    have hr1 := hr
    refine ⟨_, (pss_cons (ps_set (i := 3) sc.nd rfl (Or.inl rfl) (pe_lst pa_nil))
      (pss_cons (ps_set (i := 4) sc.nd rfl (Or.inl rfl) (pe_lst pa_nil))
      (pss_cons (ps_for PassesOwn.never rfl (pi_list (pv 2)) (pg_name (i := 5) sc.nd rfl (Or.inl rfl))
      (pss_cons (ps_set (i := 6) sc.nd rfl (Or.inl rfl) (pe_or (pe_cmpR op_gt_str (pv 5) (pv 1) (nomark _)) (pe_one (pe_cmpR op_eq (pe_call FD.ok hr1 (by rfl) FD.m FD.kp FD.b .nil pass0 (pa_cons (pv 0) (pa_cons pe_int pa_nil))) pe_int (nomark _)))))
      (pss_one (ps_if (PW.pt (pw_and (pt_cmpR op_ne (pv 5) (pv 1) (nomark _)) (pw_and (pt_val (pv 6)) (pw_and1 (pt_cmpR op_gt (pe_call FD.ok hr1 (by rfl) FD.m FD.kp FD.b .nil pass0 (pa_cons (pv 0) (pa_cons pe_int pa_nil))) pe_int (nomark _))))))
      (pss_cons (ps_set (i := 7) sc.nd rfl (Or.inl rfl) (pe_lst pa_nil))
      (pss_cons (ps_for PassesOwn.never rfl (pi_list (pe_call FO.ok hr1 (by rfl) FO.m FO.kp FO.b .nil pass0 (pa_cons (pv 5) pa_nil))) (pg_tup rfl (pgs_cons (pg_name (i := 8) sc.nd rfl (Or.inl rfl)) (pgs_cons (pg_name (i := 9) sc.nd rfl (Or.inl rfl)) pgs_nil)))
      (pss_cons (ps_set (i := 10) sc.nd rfl (Or.inl rfl) (pe_ix ix_list (pe_lst (pa_cons (pv 8) (pa_cons (pv 8) (pa_cons (pe_op op_add_str pe_str (pv 8)) pa_nil)))) (pe_call FD.ok hr1 (by rfl) FD.m FD.kp FD.b .nil pass0 (pa_cons (pv 0) (pa_cons pe_int pa_nil))) (fun _ _ => rfl)))
      (pss_one (ps_if (PW.pt (pw_and (pt_cmpR op_eq (pe_call FD.ok hr1 (by rfl) FD.m FD.kp FD.b .nil pass0 (pa_cons (pv 0) (pa_cons pe_int pa_nil))) pe_int (nomark _)) (pw_and (pt_cmpR op_notIn_seq (pv 10) (pv 4) rfl) (pw_and1 (pt_cmpR op_lt (pe_callB call_len_seq (by rfl) T.len (by decide +kernel) (pa_cons (pv 7) pa_nil)) pe_int (nomark _))))))
      (pss_cons (ps_expr (pe_bm PySem.F.plainAttrs_list PySem.F.slot_list_append PySem.F.type_list_append mt_append (pv 7) (pa_cons (pe_tup (pa_cons (pv 8) (pa_cons (pv 10) pa_nil))) pa_nil)))
      (pss_one (ps_expr (pe_bm PySem.F.plainAttrs_list PySem.F.slot_list_append PySem.F.type_list_append mt_append (pv 4) (pa_cons (pv 10) pa_nil)))))
      pss_nil))))
      (pss_one (ps_if (pt_cmpR (op_neD hr.units) (pv 7) (pe_lst pa_nil) (nomark _))
      (pss_one (ps_expr (pe_bm PySem.F.plainAttrs_list PySem.F.slot_list_append PySem.F.type_list_append mt_append (pv 3) (pa_cons (pe_tup (pa_cons pe_str (pa_cons (pe_callTy call_tuple_of (by rfl) T2.btuple (by decide +kernel) (pa_cons (pv 7) pa_nil)) (pa_cons (pv 5) pa_nil)))) pa_nil))))
      pss_nil))))
      pss_nil))))
      (pss_one (ps_ret (pv 3)))))), ?_⟩
    refine ⟨Nat.zero_le _, fun Dl nl => ⟨Nat.zero_le _, fun Dt nt => ?_⟩⟩
    have s0 := ((Bs.refl hB).new (o := .lst []) nl).new (o := .lst []) nt
    have ntH : H Dt = none := ((Bs.refl hB).new (o := .lst []) nl).free _ nt
    have nlt : Dl ≠ Dt := ne_of_none (upd_same (H := H) (a := Dl) (o := .lst [])) nt
    refine ⟨_, rfl, lo, rfl, ⟨_, SqL.of (hN.bs hB s0).at_⟩, for_list (K := K) (a := lo) (xs := os.map fun l => V.str (S l)) (fun i σ H' => ∃ (n' : Nat) (y5 y6 y7 y8 y9 y10 : Option V) (lw : List V) (il : List (List (NM × NM) × NM)),
        σ = [some (.ref b), some (.str (S nm)), some (.ref lo), some (.ref Dl), some (.ref Dt), y5, y6, y7, y8, y9, y10] ∧ Bs b d ds H H' n' ∧ H' Dl = some (.lst lw) ∧ ILs H' lw il ∧ H' Dt = some (.lst ((il.flatMap fun l => l.1.map (·.2)).map fun l => V.str (S l))) ∧ ImpP nm os il ∧ il.length ≤ i)
      ⟨n, none, none, none, none, none, none, [], [], rfl, s0, by rw [upd_ne nlt, upd_same], .nil, upd_same, ⟨fun l hl => (by cases hl), List.nodup_nil⟩, Nat.le_refl _⟩ (fun i σ H' _ ⟨n', _, _, _, _, _, _, _, _, _, sx, _⟩ => SqL.of (hN.bs hB sx).at_) ?_ ?_⟩
    rotate_left
    · rintro σ H' ⟨n', y5, y6, y7, y8, y9, y10, lw, il, rfl, sx, eDl, ils, eDt, ip, hil⟩
      rw [List.length_map] at hil
      exact ⟨_, rfl, q H' n' Dl lw il sx nl eDl ils ip hil⟩
    rintro i y σ H1 hi ⟨n1, y5, y6, y7, y8, y9, y10, lw, il, rfl, sa, eDl, ils, eDt, ip, hil⟩
    obtain ⟨o, eo, rfl⟩ : ∃ z, os[i]? = some z ∧ y = .str (S z) := by
      rw [List.getElem?_map] at hi
      obtain ⟨z, h1, h2⟩ := Option.map_eq_some_iff.mp hi
      exact ⟨z, h1, h2.symm⟩
    have ho := List.mem_of_getElem? eo
    have ho4 := hO o ho
    have li : i < os.length := (List.getElem?_eq_some_iff.mp eo).1
    have ll : ∀ {H'' : Hp} {n''}, Bs b d ds H1 H'' n'' → H'' Dl = some (.lst lw) ∧ ILs H'' lw il ∧ H'' Dt = some (.lst ((il.flatMap fun l => l.1.map (·.2)).map fun l => V.str (S l))) := fun {H'' n''} y =>
      ⟨y.bx _ _ (ne_of_none hB.1 nl).symm eDl, ils.imp (Bs.tup y sa.box), y.bx _ _ (ne_of_none hB.1 ntH).symm eDt⟩
    -- wanted
    refine ⟨_, rfl, _, rfl, _, _, rfl, rfl, _, rfl, ite2 (fun h => ?g1) (fun h => ⟨_, rfl, b, d, ds, n1, 12, rfl, sa.box, by decide, fun r h0 h1 => ⟨rfl, ?g2⟩⟩)⟩
    case' g1 => have ya := Bs.refl sa.box
    case' g2 => have ya := (Bs.refl sa.box).draw
    all_goals (
      have ea := ll ya
      have sb := sa.trans ya
      have inv0 : ∀ {H'' : Hp} {n''} (w5 w6 w7 w8 w9 w10 : Option V), Bs b d ds H1 H'' n'' → ∃ (n' : Nat) (y5 y6 y7 y8 y9 y10 : Option V) (lw : List V) (il : List (List (NM × NM) × NM)),
        [some (.ref b), some (.str (S nm)), some (.ref lo), some (.ref Dl), some (.ref Dt), w5, w6, w7, w8, w9, w10] = [some (.ref b), some (.str (S nm)), some (.ref lo), some (.ref Dl), some (.ref Dt), y5, y6, y7, y8, y9, y10] ∧ Bs b d ds H H'' n' ∧ H'' Dl = some (.lst lw) ∧ ILs H'' lw il ∧ H'' Dt = some (.lst ((il.flatMap fun l => l.1.map (·.2)).map fun l => V.str (S l))) ∧ ImpP nm os il ∧ il.length ≤ i + 1 := fun {H'' n''} w5 w6 w7 w8 w9 w10 y =>
          ⟨n'', w5, w6, w7, w8, w9, w10, lw, il, rfl, sa.trans y, (ll y).1, (ll y).2.1, (ll y).2.2, ip, by omega⟩
      refine ⟨_, rfl, _, rfl, rfl, _, rfl, ite2 (fun hne => ⟨_, rfl, _, rfl, ite2 (fun hw => ⟨_, rfl, b, d, ds, _, 4, rfl, sb.box, by decide, fun r2 h2 h3 => ⟨_, _, rfl, rfl, _, rfl, ite2 (fun hg => ?_) (fun _ => inv0 _ _ _ _ _ _ ya.draw)⟩⟩) (fun _ => inv0 _ _ _ _ _ _ ya)⟩) (fun _ => inv0 _ _ _ _ _ _ ya)⟩
      have yc := ya.draw
      have o6 : o.length ≤ 6 := by
        have : ∀ o ∈ mods4, o.length ≤ 6 := by decide
        exact this o ho4
      have hno : o ≠ nm := fun z => by rw [z] at hne; simp at hne
      refine ⟨Nat.zero_le _, fun Dp np => ?_⟩
      have yd := yc.new (o := .lst []) np
      refine ⟨_, rfl, o, rfl, o6, fun Ho Do ow so nDo eDo plo => ⟨Do, rfl, ⟨_, SqL.of eDo⟩, for_list (K := K) (a := Do) (xs := ow) (fun j σ H' => ∃ (n' : Nat) (w6 z8 z9 z10 : Option V) (pw : List V) (ps : List (NM × NM)),
          σ = [some (.ref b), some (.str (S nm)), some (.ref lo), some (.ref Dl), some (.ref Dt), some (.str (S o)), w6, some (.ref Dp), z8, z9, z10] ∧ Bs b d ds H H' n' ∧ IV b Dl Dt Dp Do lw il ((il.flatMap fun l => l.1.map (·.2)) ++ ps.map (·.2)) pw ps ow (ownM o) H' ∧
          ps.length ≤ 3 ∧ (∀ p ∈ ps, p.1 ∈ ownN o ∧ (p.2 = p.1 ∨ p.2 = 122 :: p.1)) ∧ ((il.flatMap fun l => l.1.map (·.2)) ++ ps.map (·.2)).Nodup) ⟨_, _, _, _, _, [], [], rfl, (sa.trans yd).same so, ?_, by decide, fun p hp => (by cases hp), ?_⟩ (fun j σ H' _ ⟨_, _, _, _, _, _, _, _, _, iv, _⟩ => SqL.of iv.o) ?_ ?_⟩⟩
      · have e1 := ll yd
        refine ⟨so _ _ e1.1, e1.2.1.imp (same_tup so), ?_, so _ _ upd_same, .nil, eDo, plo, box_lst hB nl, box_lst hB ntH, box_lst yc.box np, box_lst yd.box nDo, nlt, ne_of_none (ll yc).1 np, ne_of_none (ll yc).2.2 np, (ne_of_none e1.1 nDo).symm, (ne_of_none e1.2.2 nDo).symm, (ne_of_none upd_same nDo).symm⟩
        rw [List.map_nil, List.append_nil]
        exact so _ _ e1.2.2
      · rw [List.map_nil, List.append_nil]
        exact ip.nd
      · -- a pair
        rintro j x σ Hx hx ⟨m1, w6, z8, z9, z10, pw, ps, rfl, sx, iv, hp3, hpm, hnd⟩
        obtain ⟨pj, epj, q9, rfl, hq9⟩ := pairGetR iv.ol hx
        have hpj := List.mem_of_getElem? epj
        have oN := own_fst o hpj
        have p6 : pj.1.length ≤ 5 := (own_ok o ho4 pj hpj).2.1
        refine ⟨q9, _, rfl, SqT.of hq9, rfl, _, _, rfl, _, _, rfl, rfl, ?_⟩
        refine ⟨_, rfl, _, rfl, _, rfl, _, _, rfl, rfl, addLe (m := 1) (litLe (by decide)) (SLe p6) (by decide), three_le, fun l9 nl9 => ?_⟩
        have cat : Str.ofString "z" ++ S pj.1 = S (122 :: pj.1) := S_app [122] pj.1
        rw [cat]
        have y1 := (Bs.refl sx.box).new (o := .lst (([pj.1, pj.1, 122 :: pj.1] : List NM).map fun l => V.str (S l))) nl9
        refine ⟨_, rfl, b, d, ds, m1, 3, rfl, y1.box, by decide, fun r3 h4 h5 => ?_⟩
        have y2 := y1.draw
        obtain ⟨j3, rfl, hj3⟩ := idx (m := 3) h4 h5
        obtain ⟨cl, ecl⟩ : ∃ z, ([pj.1, pj.1, 122 :: pj.1] : List NM)[j3]? = some z := ⟨_, List.getElem?_eq_getElem hj3⟩
        have hcl : cl = pj.1 ∨ cl = 122 :: pj.1 := by
          have := List.mem_of_getElem? ecl
          simp only [List.mem_cons, List.not_mem_nil, or_false] at this
          rcases this with h | h | h
          · exact .inl h
          · exact .inl h
          · exact .inr h
        refine ⟨l9, _, _, .str (S cl), rfl, rfl, SqL.of (xs := ([pj.1, pj.1, 122 :: pj.1] : List NM).map fun l => V.str (S l)) (by rw [upd_ne (sx.nb nl9)]; exact upd_same), atI_nat (by rw [List.getElem?_map, ecl]; rfl), ?_⟩
        -- drawn, not taken, fewer than three
        refine ⟨_, rfl, b, d, ds, _, 2, rfl, y2.box, by decide, fun r4 h6 h7 => ?_⟩
        have y3 := y2.draw
        have iv3 := iv.bs sx.box y3
        have s3 := sx.trans y3
        refine ⟨rfl, _, rfl, ite2 (fun hz => ?_) (fun _ => ⟨_, w6, _, _, _, pw, ps, rfl, s3, iv3, hp3, hpm, hnd⟩)⟩
        refine ⟨_, rfl, _, rfl, Dt, _, rfl, .inl (SqL.of iv3.t), rfl, flat_strs _, _, rfl, ite2 (fun hin => ?_) (fun _ => ⟨_, w6, _, _, _, pw, ps, rfl, s3, iv3, hp3, hpm, hnd⟩)⟩
        refine ⟨_, rfl, Dp, _, rfl, .inl (SqL.of iv3.p), _, _, rfl, rfl, _, rfl, ite2 (fun hlen => ?_) (fun _ => ⟨_, w6, _, _, _, pw, ps, rfl, s3, iv3, hp3, hpm, hnd⟩)⟩
        have hnew : cl ∉ (il.flatMap fun l => l.1.map (·.2)) ++ ps.map (·.2) := by
          have e := inV_strs cl ((il.flatMap fun l => l.1.map (·.2)) ++ ps.map (·.2))
          have hin : (!inV (.str (S cl)) (((il.flatMap fun l => l.1.map (·.2)) ++ ps.map (·.2)).map fun l => V.str (S l))) = true := hin
          rw [e] at hin
          intro z
          rw [decide_eq_true z] at hin
          cases hin
        have pwl : pw.length = ps.length := Paired.length iv.pl
        have hp2 : ps.length < 3 := by have := of_decide_eq_true hlen; omega
        refine ⟨_, rfl, .inl ⟨rfl, _, SqL.of iv3.p⟩, _, rfl, _, rfl, two_le, fun t9 nt9 => ?_⟩
        have y4 := (Bs.refl y3.box).new (o := .tup [V.str (S pj.1), V.str (S cl)]) nt9
        have iv4 := iv3.bs y3.box y4
        refine ⟨Dp, _, _, rfl, rfl, iv4.p, by rw [pwl]; exact Nat.lt_of_lt_of_le hp2 (by decide), ?_⟩
        have npH : H Dp = none := (sa.trans yc).free _ np
        have kp5 := tup_lst (ys := pw ++ [V.ref t9]) iv4.p
        have eDt5 : upd (upd _ t9 (.tup [V.str (S pj.1), V.str (S cl)])) Dp (.lst (pw ++ [V.ref t9])) Dt = some _ := (upd_ne iv4.d3).trans iv4.t
        refine ⟨_, rfl, .inl ⟨rfl, _, SqL.of eDt5⟩, _, rfl, Dt, _, _, rfl, rfl, eDt5, ?_, ?_⟩
        · have f3 := flat_len (il := il) fun l hl => (ip.mem l hl).2.2.2.1
          rw [List.length_map, List.length_append, List.length_map]
          exact Nat.lt_of_le_of_lt (show _ ≤ 3 * 4 + 3 by omega) (by decide)
        have kp6 := tup_lst (ys := (((il.flatMap fun l => l.1.map (·.2)) ++ ps.map (·.2)).map fun l => V.str (S l)) ++ [V.str (S cl)]) eDt5
        refine ⟨_, w6, _, _, _, pw ++ [.ref t9], ps ++ [(pj.1, cl)], rfl, ((s3.trans y4).wr hB npH).wr hB ntH, ⟨?_, (iv4.il_.imp kp5).imp kp6, ?_, ?_, ?_, ?_, (iv4.ol.imp kp5).imp kp6, iv.nl, iv.nt, iv.np, iv.no, iv.d1, iv.d2, iv.d3, iv.d4, iv.d5, iv.d6⟩, ?_, fun p hp => ?_, ?_⟩
        · rw [upd_ne iv.d1, upd_ne iv.d2]; exact iv4.l
        · rw [upd_same]; simp
        · rw [upd_ne iv.d3.symm, upd_same]
        · refine pairSnoc ((iv4.pl.imp kp5).imp kp6) ⟨t9, rfl, kp6 _ _ (kp5 _ _ upd_same)⟩
        · rw [upd_ne iv.d5, upd_ne iv.d6]; exact iv4.o
        · rw [List.length_append, List.length_singleton]; omega
        · rcases List.mem_append.mp hp with hp | hp
          · exact hpm p hp
          · rw [List.mem_singleton.mp hp]; exact ⟨oN, hcl⟩
        · rw [List.map_append, ← List.append_assoc]
          show ((_ ++ ps.map (·.2)) ++ [cl]).Nodup
          rw [List.nodup_append]
          exact ⟨hnd, by simp, fun x hx y hy z => hnew (by rw [List.mem_singleton.mp hy] at z; rw [← z]; exact hx)⟩
      · -- behind the pairs
        rintro σ Hx ⟨m1, w6, z8, z9, z10, pw, ps, rfl, sx, iv, hp3, hpm, hnd⟩
        have npH : H Dp = none := (sa.trans yc).free _ np
        obtain ⟨dd, d1, d2, d3⟩ := pl_dp (K := K) iv.pl (fun p hp => own_okN ho4 (hpm p hp).1 (hpm p hp).2)
        refine ⟨_, rfl, Nat.zero_le _, fun l9 nl9 => ?_⟩
        have y1 := (Bs.refl sx.box).new (o := .lst []) nl9
        have iv1 := iv.bs sx.box y1
        obtain ⟨dd, d1, d2, d3⟩ := pl_dp (K := K) iv1.pl (fun p hp => own_okN ho4 (hpm p hp).1 (hpm p hp).2)
        refine ⟨_, _, .lst (SqL.of iv1.p) d1, .lst (SqL.of upd_same) .nil, (Fit.list d3).shaped (by decide), fit_nil.shaped (by decide), _, rfl, ?_⟩
        rw [eqv_nil, d2]
        rcases ps with _ | ⟨p0, pr⟩
        · refine iteF ⟨m1, _, _, _, _, _, _, lw, il, rfl, sx.trans y1, iv1.l, iv1.il_, ?_, ip, by omega⟩
          have := iv1.t
          rw [List.map_nil, List.append_nil] at this
          exact this
        refine iteT ?_
        refine ⟨_, rfl, .inl ⟨rfl, _, SqL.of iv1.l⟩, _, rfl, Dp, _, rfl, .inl ⟨SqL.of iv1.p, fun a9 na9 => ⟨_, rfl, three_le, fun t9 nt9 => ?_⟩⟩⟩
        have y2 := y1.new (o := .tup pw) na9
        have y3 := y2.new (o := .tup [V.str "import", V.ref a9, V.str (S o)]) nt9
        have iv3 := iv.bs sx.box y3
        have lwl : lw.length = il.length := Paired.length ils
        refine ⟨Dl, _, _, rfl, rfl, iv3.l, by rw [lwl]; exact Nat.lt_of_le_of_lt (show il.length ≤ 4 by omega) (by decide), ?_⟩
        have kp := tup_lst (ys := lw ++ [V.ref t9]) iv3.l
        have nlH : H Dl = none := nl
        refine ⟨m1, _, _, _, _, _, _, lw ++ [.ref t9], il ++ [(p0 :: pr, o)], rfl, (sx.trans y3).wr hB nlH, upd_same, ?_, ?_, ⟨fun l hl => ?_, ?_⟩, ?_⟩
        · refine pairSnoc (iv3.il_.imp kp) ⟨t9, a9, pw, rfl, kp _ _ upd_same, kp _ _ (newtup nt9 _ _ upd_same), iv3.pl.imp kp⟩
        · rw [upd_ne iv.d1.symm, iv3.t, List.flatMap_append]
          simp
        · rcases List.mem_append.mp hl with hl | hl
          · exact ip.mem l hl
          · rw [List.mem_singleton.mp hl]
            exact ⟨ho, hno, by simp, hp3, hpm⟩
        · rw [List.flatMap_append]
          simpa using hnd
        · rw [List.length_append, List.length_singleton]; omega)
end
end K3

set_option maxRecDepth 100000
set_option maxHeartbeats 16000000
/-! drawn modules: names that can be used, functions that can be called -/
namespace K3
open PySem hiding Tok code
open PySem.Spec PyProof.Rows GD K1
open L2 hiding rest
open K2 hiding Sp P
abbrev sUsable : Stmt := topS 23
abbrev sCalls : Stmt := topS 24
/-- import lines whose names may stand -/
def IOk (il : List (List (NM × NM) × NM)) : Prop := ∀ l ∈ il, l.1.length ≤ 3 ∧ ∀ p ∈ l.1, okN p.1 ∧ okN p.2
theorem ImpP.ok {nm : NM} {os : List NM} {il} (h : ImpP nm os il) (hO : ∀ o ∈ os, o ∈ mods4) : IOk il := fun l hl => by
  obtain ⟨h1, _, _, h4, h5⟩ := h.mem l hl
  exact ⟨h4, fun p hp => own_okN (hO _ h1) (h5 p hp).1 (h5 p hp).2⟩
theorem okN_ne {x : NM} (h : okN x) : ∃ c r, x = c :: r := by
  have := (nmB_good h.1).1
  cases x with
  | nil => exact absurd rfl this
  | cons c r => exact ⟨c, r, rfl⟩
theorem snoc_str (l : List NM) (x : NM) : (l.map fun l => V.str (S l)) ++ [.str (S x)] = (l ++ [x]).map fun l => V.str (S l) := by rw [List.map_append]; rfl
theorem cat_str (l m : List NM) : (l.map fun l => V.str (S l)) ++ (m.map fun l => V.str (S l)) = (l ++ m).map fun l => V.str (S l) := by rw [List.map_append]
section
variable {P : Program} {w : World} {K : PySem.W.Frag} {mg : Str → Option Value} {base : Heap}
def spUsable : L2.Sp := fun vs H Q _ => ∃ (L : Addr) (ws : List V) (il : List (List (NM × NM) × NM)) (c wd : NM), vs = [.ref L, .str (S c), .str (S wd)] ∧ H L = some (.lst ws) ∧ ILs H ws il ∧ IOk il ∧ il.length ≤ 4 ∧ c ∈ mods4 ∧
  ∀ H' D ns, Same H H' → H D = none → Nam H' D ns → ns.length ≤ 17 → Q (.ref D) H'
theorem scUsable : FnScope ["lines", "name", "wanted", "found", "line", "own", "called", "kind"] ["lines", "name", "wanted"] (defScope sUsable) := ⟨rfl, rfl, rfl, by decide +kernel, rfl, by decide +kernel, by decide +kernel⟩
theorem ok_usable {f f2 : Addr} {fd fd2 : FuncData} (F : Fun K "_law_usable" "_law_usable" sUsable f fd) (T : Txt K mg)
    (FO : FO P w K mg base CX0 1 "_law_own" ["name"] spOwn f2 fd2) : FnOk P w K mg base CX0 2 f fd ["lines", "name", "wanted"] spUsable := by
  have sc := scUsable
  refine F.ok sc (fun vs H Q E h => ?_) (fun cdv A outer s H vs Q E hr h => ?_)
  · obtain ⟨L, ws, il, c, wd, rfl, _⟩ := h
    rfl
  · obtain ⟨L, ws, il, c, wd, rfl, hL, hI, hok, h4, hc, q⟩ := h
    refine ⟨_, (pss_cons (ps_set (i := 3) sc.nd rfl (Or.inl rfl) (pe_lst pa_nil))
      (pss_cons (ps_for PassesOwn.never rfl (pi_list (pv 0)) (pg_name (i := 4) sc.nd rfl (Or.inl rfl))
      (pss_one (ps_if (pt_cmpR op_eq (pe_ix ix_tup (pv 4) pe_int (fun _ _ => rfl)) pe_str (nomark _))
      (pss_one (ps_set (i := 3) sc.nd rfl (Or.inl rfl) (pe_op op_cat (pv 3) (pe_lc (own := [("own", 5), ("called", 6)]) rfl sc.nd (pi_tup (pe_ix ix_tup (pv 4) pe_int (fun _ _ => rfl))) (blkOk_by (own := [("own", 5), ("called", 6)]) (N := ["lines", "name", "wanted", "found", "line", "own", "called", "kind"]) (sc := defScope sUsable) (by decide +kernel)) (fun _ _ _ _ _ => (show PG _ _ (gTup K 2 _) from pg_tup rfl (pgs_cons (pg_name (i := 5) sc.nd rfl (Or.inl rfl)) (pgs_cons (pg_name (i := 6) sc.nd rfl (Or.inl rfl)) pgs_nil)))) (fun _ _ _ _ _ => (pts_one (pt_cmpR op_in_sign (pe_item_str (pv 5) pe_int (fun _ _ => rfl)) (pv 2) rfl))) (fun _ _ _ _ _ => (pv 6))))))
      pss_nil)))
      (pss_one (ps_ret (pe_op op_cat (pv 3) (pe_lc (own := [("own", 5), ("kind", 7)]) rfl sc.nd (pi_list (pe_call FO.ok hr (by rfl) FO.m FO.kp FO.b .nil pass0 (pa_cons (pv 1) pa_nil))) (blkOk_by (own := [("own", 5), ("kind", 7)]) (N := ["lines", "name", "wanted", "found", "line", "own", "called", "kind"]) (sc := defScope sUsable) (by decide +kernel)) (fun _ _ _ _ _ => (show PG _ _ (gTup K 2 _) from pg_tup rfl (pgs_cons (pg_name (i := 5) sc.nd rfl (Or.inl rfl)) (pgs_cons (pg_name (i := 7) sc.nd rfl (Or.inl rfl)) pgs_nil)))) (fun _ _ _ _ _ => (pts_one (pt_cmpR op_in_sign (pe_item_str (pv 5) pe_int (fun _ _ => rfl)) (pv 2) rfl))) (fun _ _ _ _ _ => (pv 5)))))))), ?_⟩
    refine ⟨Nat.zero_le _, fun D0 n0 => ?_⟩
    refine ⟨_, rfl, L, rfl, ⟨_, SqL.of (by rw [upd_ne (ne_of_none hL n0)]; exact hL)⟩, for_list (K := K) (a := L) (xs := ws) (fun i σ H' => ∃ (y4 y5 y6 y7 : Option V) (D : Addr) (ns : List NM), σ = [some (.ref L), some (.str (S c)), some (.str (S wd)), some (.ref D), y4, y5, y6, y7] ∧ Same H H' ∧ H D = none ∧ Nam H' D ns ∧ ns.length ≤ 3 * i)
      ⟨none, none, none, none, D0, [], rfl, Same.up (Same.refl H) n0, n0, ⟨upd_same, fun l hl => (by cases hl), by decide⟩, Nat.zero_le _⟩ (fun i σ H' _ ⟨_, _, _, _, _, _, _, s, _⟩ => SqL.of (s _ _ hL)) ?_ ?_⟩
    · rintro i x σ H1 hx ⟨y4, y5, y6, y7, D, ns, rfl, s1, nD, hN, hl⟩
      obtain ⟨ln, eln, q9, a9, us, rfl, h1, h2, h3⟩ := pairGetR hI hx
      obtain ⟨p3, pok⟩ := hok ln (List.mem_of_getElem? eln)
      have il4 : i < 4 := Nat.lt_of_lt_of_le (List.getElem?_eq_some_iff.mp eln).1 h4
      refine ⟨_, rfl, q9, _, _, _, rfl, rfl, SqT.of (s1 _ _ h1), atI_nat (j := 0) rfl, rfl, _, rfl, iteT ?_⟩
      refine ⟨_, rfl, _, rfl, q9, _, _, _, rfl, rfl, SqT.of (s1 _ _ h1), atI_nat (j := 1) rfl, a9, rfl, ⟨_, SqT.of (s1 _ _ h2)⟩, fun E9 nE => ?_⟩
      refine lc_tup (K := K) (a := a9) (xs := us) (fun j H' => ∃ ms : List NM, Same H1 H' ∧ H' E9 = some (.lst (ms.map fun l => V.str (S l))) ∧ (∀ l ∈ ms, okN l) ∧ ms.length ≤ j) ⟨[], Same.up (Same.refl _) nE, upd_same, fun l hl => (by cases hl), Nat.le_refl _⟩ (fun j H' _ ⟨_, s, _⟩ => SqT.of (s _ _ (s1 _ _ h2))) (fun j x H' hx ⟨ms, s, eE, mo, ml⟩ => ?_) (fun H' ⟨ms, s, eE, mo, ml⟩ => ?_)
      · obtain ⟨pp, epp, r9, rfl, hr9⟩ := pairGetR h3 hx
        obtain ⟨o1, o2⟩ := pok pp (List.mem_of_getElem? epp)
        obtain ⟨c0, r0, e0⟩ := okN_ne o1
        have jl : j < ln.1.length := (List.getElem?_eq_some_iff.mp epp).1
        refine ⟨r9, _, rfl, SqT.of (s _ _ (s1 _ _ hr9)), rfl, _, _, rfl, _, _, rfl, rfl, rfl, ?_⟩
        refine ⟨_, rfl, _, _, c0, rfl, rfl, by decide, by decide, ?_, ?_, _, rfl, _, _, rfl, rfl, _, rfl, ite2 (fun _ => ?_) (fun _ => ?_)⟩
        · rw [S_len, e0]; simp
        · rw [e0]; rfl
        · refine ⟨_, rfl, _, eE, by rw [List.length_map]; exact Nat.lt_of_le_of_lt (show ms.length ≤ 5 by omega) (by decide), ms ++ [pp.2], fun b o e => ?_, ?_, fun l hl => ?_, ?_⟩
          · rw [upd_ne (ne_of_none e nE)]; exact s b o e
          · rw [upd_same, snoc_str]
          · rcases List.mem_append.mp hl with hl | hl
            · exact mo l hl
            · rw [List.mem_singleton.mp hl]; exact o2
          · rw [List.length_append, List.length_singleton]; omega
        · exact ⟨ms, s, eE, mo, by omega⟩
      · have ul : us.length = ln.1.length := Paired.length h3
        refine ⟨D, E9, _, _, rfl, rfl, s _ _ hN.at_, eE, ?_, fun p np => ?_⟩
        · rw [List.length_map, List.length_map]
          exact Nat.le_trans (show ns.length + ms.length ≤ 100 by omega) (by decide)
        · rw [cat_str]
          have sE : Same H H' := fun b o e => s b o (s1 b o e)
          refine ⟨_, _, _, _, p, ns ++ ms, rfl, Same.up sE np, ?_, ⟨upd_same, fun l hl => ?_, ?_⟩, ?_⟩
          · cases e : H p with
            | none => rfl
            | some o => rw [sE _ _ e] at np; cases np
          · rcases List.mem_append.mp hl with hl | hl
            · exact hN.ok l hl
            · exact mo l hl
          · rw [List.length_append]; omega
          · rw [List.length_append]; omega
    · rintro σ H1 ⟨y4, y5, y6, y7, D, ns, rfl, s1, nD, hN, hl⟩
      have wl : ws.length = il.length := Paired.length hI
      have c6 : c.length ≤ 6 := by
        have : ∀ o ∈ mods4, o.length ≤ 6 := by decide
        exact this c hc
      refine ⟨_, rfl, _, rfl, c, rfl, c6, fun H2 Do ow s2 nDo eDo plo => ⟨Do, rfl, ⟨_, SqL.of eDo⟩, fun E9 nE => ?_⟩⟩
      have ol : ow.length = 5 := Paired.length plo
      refine lc_list (K := K) (a := Do) (xs := ow) (fun j H' => ∃ ms : List NM, Same H2 H' ∧ H' E9 = some (.lst (ms.map fun l => V.str (S l))) ∧ (∀ l ∈ ms, okN l) ∧ ms.length ≤ j) ⟨[], Same.up (Same.refl _) nE, upd_same, fun l hl => (by cases hl), Nat.le_refl _⟩ (fun j H' _ ⟨_, s, _⟩ => SqL.of (s _ _ eDo)) (fun j x H' hx ⟨ms, s, eE, mo, ml⟩ => ?_) (fun H' ⟨ms, s, eE, mo, ml⟩ => ?_)
      · obtain ⟨pp, epp, r9, rfl, hr9⟩ := pairGetR plo hx
        have o1 : okN pp.1 := (own_okN hc (own_fst c (List.mem_of_getElem? epp)) (.inl rfl)).1
        obtain ⟨c0, r0, e0⟩ := okN_ne o1
        have jl : j < ow.length := (List.getElem?_eq_some_iff.mp hx).1
        refine ⟨r9, _, rfl, SqT.of (s _ _ hr9), rfl, _, _, rfl, _, _, rfl, rfl, rfl, ?_⟩
        refine ⟨_, rfl, _, _, c0, rfl, rfl, by decide, by decide, ?_, ?_, _, rfl, _, _, rfl, rfl, _, rfl, ite2 (fun _ => ?_) (fun _ => ?_)⟩
        · rw [S_len, e0]; simp
        · rw [e0]; rfl
        · refine ⟨_, rfl, _, eE, by rw [List.length_map]; exact Nat.lt_of_le_of_lt (show ms.length ≤ 5 by omega) (by decide), ms ++ [pp.1], fun b o e => ?_, ?_, fun l hl => ?_, ?_⟩
          · rw [upd_ne (ne_of_none e nE)]; exact s b o e
          · rw [upd_same, snoc_str]
          · rcases List.mem_append.mp hl with hl | hl
            · exact mo l hl
            · rw [List.mem_singleton.mp hl]; exact o1
          · rw [List.length_append, List.length_singleton]; omega
        · exact ⟨ms, s, eE, mo, by omega⟩
      · have sE : Same H H' := fun b o e => s b o (s2 b o (s1 b o e))
        refine ⟨D, E9, _, _, rfl, rfl, s _ _ (s2 _ _ hN.at_), eE, ?_, fun p np => ?_⟩
        · rw [List.length_map, List.length_map]
          exact Nat.le_trans (show ns.length + ms.length ≤ 100 by omega) (by decide)
        · rw [cat_str]
          refine q _ p (ns ++ ms) (Same.up sE np) ?_ ⟨upd_same, fun l hl => ?_, ?_⟩ ?_
          · cases e : H p with
            | none => rfl
            | some o => rw [sE _ _ e] at np; cases np
          · rcases List.mem_append.mp hl with hl | hl
            · exact hN.ok l hl
            · exact mo l hl
          · rw [List.length_append]; omega
          · rw [List.length_append]; omega
end
end K3

set_option maxRecDepth 100000
set_option maxHeartbeats 16000000
/-! drawn modules: functions that can be called -/
namespace K3
open PySem hiding Tok code
open PySem.Spec PyProof.Rows GD K1
open L2 hiding rest
open K2 hiding Sp P
section
variable {P : Program} {w : World} {K : PySem.W.Frag} {mg : Str → Option Value} {base : Heap}
abbrev CL (H : Hp) (vs : List V) (cs : List (NM × Nat)) : Prop := Paired (fun v (c : List Nat × Nat) => ∃ q, v = .ref q ∧ H q = some (.tup [.str (S c.1), .int (c.2 : Nat)])) vs cs
theorem CL.imp {H H' : Hp} {vs : List V} {cs : List (NM × Nat)} (k : ∀ q xs, H q = some (.tup xs) → H' q = some (.tup xs)) (h : CL H vs cs) : CL H' vs cs := pairImp (fun v c ⟨q, e, hq⟩ => ⟨q, e, k _ _ hq⟩) h
theorem pairApp {α β : Type} {R : α → β → Prop} {l l2 : List α} {m m2 : List β} (h : Paired R l m) (k : Paired R l2 m2) : Paired R (l ++ l2) (m ++ m2) := by
  induction h with
  | nil => exact k
  | cons x _ ih => exact .cons x ih
def cOk (c : NM × Nat) : Prop := nmB c.1 = true ∧ c.1.length ≤ 6 ∧ c.2 ≤ 3
def spCalls : L2.Sp := fun vs H Q _ => ∃ (L : Addr) (ws : List V) (il : List (List (NM × NM) × NM)) (c : NM), vs = [.ref L, .str (S c)] ∧ H L = some (.lst ws) ∧ ILs H ws il ∧ IOk il ∧ il.length ≤ 4 ∧ c ∈ mods4 ∧
  ∀ H' D cs, Same H H' → H D = none → Cal H' D cs → cs.length ≤ 14 → Q (.ref D) H'
theorem scCalls : FnScope ["lines", "name", "rows", "line", "own", "called"] ["lines", "name"] (defScope sCalls) := ⟨rfl, rfl, rfl, by decide +kernel, rfl, by decide +kernel, by decide +kernel⟩
theorem ok_calls {f : Addr} {fd : FuncData} (F : Fun K "_law_calls" "_law_calls" sCalls f fd) (T : Txt K mg) : FnOk P w K mg base CX0 1 f fd ["lines", "name"] spCalls := by
  have sc := scCalls
  refine F.ok sc (fun vs H Q E h => ?_) (fun cdv A outer s H vs Q E hr h => ?_)
  · obtain ⟨L, ws, il, c, rfl, _⟩ := h
    rfl
  · obtain ⟨L, ws, il, c, rfl, hL, hI, hok, h4, hc, q⟩ := h
    refine ⟨_, (pss_cons (ps_set (i := 2) sc.nd rfl (Or.inl rfl) (pe_lst pa_nil))
      (pss_cons (ps_for PassesOwn.never rfl (pi_list (pv 0)) (pg_name (i := 3) sc.nd rfl (Or.inl rfl))
      (pss_one (ps_if (pt_cmpR op_eq (pe_ix ix_tup (pv 3) pe_int (fun _ _ => rfl)) pe_str (nomark _))
      (pss_one (ps_set (i := 2) sc.nd rfl (Or.inl rfl) (pe_op op_cat (pv 2) (pe_lc (own := [("own", 4), ("called", 5)]) rfl sc.nd (pi_tup (pe_ix ix_tup (pv 3) pe_int (fun _ _ => rfl))) (blkOk_by (own := [("own", 4), ("called", 5)]) (N := ["lines", "name", "rows", "line", "own", "called"]) (sc := defScope sCalls) (by decide +kernel)) (fun _ _ _ _ _ => (show PG _ _ (gTup K 2 _) from pg_tup rfl (pgs_cons (pg_name (i := 4) sc.nd rfl (Or.inl rfl)) (pgs_cons (pg_name (i := 5) sc.nd rfl (Or.inl rfl)) pgs_nil)))) (fun _ _ _ _ _ => (pts_one (pt_cmpR op_in_sign (pe_item_str (pv 4) pe_int (fun _ _ => rfl)) pe_str rfl))) (fun _ _ _ _ _ => (pe_tup (pa_cons (pv 5) (pa_cons (pe_ix (show IxR _ (rIxL K) from ix_list) (pe_lst (pa_cons pe_int (pa_cons pe_int pa_nil))) (pe_callTy call_int1 (by rfl) T.bint (by decide +kernel) (pa_cons (pe_cmpR op_eq (pe_item_str (pv 4) pe_int (fun _ _ => rfl)) pe_str (nomark _)) pa_nil)) (fun _ _ => rfl)) pa_nil))))))))
      pss_nil)))
      (pss_one (ps_ret (pe_op op_cat (pv 2) (pe_lst (pa_cons (pe_tup (pa_cons (pe_op op_add_str pe_str (pv 1)) (pa_cons pe_int pa_nil))) (pa_cons (pe_tup (pa_cons (pe_op op_add_str pe_str (pv 1)) (pa_cons pe_int pa_nil))) pa_nil)))))))), ?_⟩
    refine ⟨Nat.zero_le _, fun D0 n0 => ?_⟩
    refine ⟨_, rfl, L, rfl, ⟨_, SqL.of (by rw [upd_ne (ne_of_none hL n0)]; exact hL)⟩, for_list (K := K) (a := L) (xs := ws) (fun i σ H' => ∃ (y3 y4 y5 : Option V) (D : Addr) (vs : List V) (cs : List (NM × Nat)), σ = [some (.ref L), some (.str (S c)), some (.ref D), y3, y4, y5] ∧ Same H H' ∧ H D = none ∧ H' D = some (.lst vs) ∧ CL H' vs cs ∧ (∀ c ∈ cs, cOk c) ∧ cs.length ≤ 3 * i)
      ⟨none, none, none, D0, [], [], rfl, Same.up (Same.refl H) n0, n0, upd_same, .nil, fun l hl => (by cases hl), Nat.zero_le _⟩ (fun i σ H' _ ⟨_, _, _, _, _, _, _, s, _⟩ => SqL.of (s _ _ hL)) ?_ ?_⟩
    · rintro i x σ H1 hx ⟨y4, y5, y6, D, vs, cs, rfl, s1, nD, eD, cl, co, hl⟩
      obtain ⟨ln, eln, q9, a9, us, rfl, h1, h2, h3⟩ := pairGetR hI hx
      obtain ⟨p3, pok⟩ := hok ln (List.mem_of_getElem? eln)
      have il4 : i < 4 := Nat.lt_of_lt_of_le (List.getElem?_eq_some_iff.mp eln).1 h4
      refine ⟨_, rfl, q9, _, _, _, rfl, rfl, SqT.of (s1 _ _ h1), atI_nat (j := 0) rfl, rfl, _, rfl, iteT ?_⟩
      refine ⟨_, rfl, _, rfl, q9, _, _, _, rfl, rfl, SqT.of (s1 _ _ h1), atI_nat (j := 1) rfl, a9, rfl, ⟨_, SqT.of (s1 _ _ h2)⟩, fun E9 nE => ?_⟩
      refine lc_tup (K := K) (a := a9) (xs := us) (fun j H' => ∃ (us2 : List V) (ms : List (NM × Nat)), Same H1 H' ∧ H' E9 = some (.lst us2) ∧ CL H' us2 ms ∧ (∀ c ∈ ms, cOk c) ∧ ms.length ≤ j) ⟨[], [], Same.up (Same.refl _) nE, upd_same, .nil, fun l hl => (by cases hl), Nat.le_refl _⟩ (fun j H' _ ⟨_, _, s, _⟩ => SqT.of (s _ _ (s1 _ _ h2))) (fun j x H' hx ⟨us2, ms, s, eE, cm, mo, ml⟩ => ?_) (fun H' ⟨us2, ms, s, eE, cm, mo, ml⟩ => ?_)
      · obtain ⟨pp, epp, r9, rfl, hr9⟩ := pairGetR h3 hx
        obtain ⟨o1, o2⟩ := pok pp (List.mem_of_getElem? epp)
        obtain ⟨c0, r0, e0⟩ := okN_ne o1
        have jl : j < ln.1.length := (List.getElem?_eq_some_iff.mp epp).1
        have ul2 : us2.length = ms.length := Paired.length cm
        have c9 : ((S pp.1).length : Int) > 0 := by rw [S_len, e0]; simp
        refine ⟨r9, _, rfl, SqT.of (s _ _ (s1 _ _ hr9)), rfl, _, _, rfl, _, _, rfl, rfl, rfl, ?_⟩
        refine ⟨_, rfl, _, _, c0, rfl, rfl, by decide, by decide, c9, by rw [e0]; rfl, _, _, rfl, rfl, _, rfl, ite2 (fun _ => ?_) (fun _ => ⟨us2, ms, s, eE, cm, mo, by omega⟩)⟩
        refine ⟨_, rfl, two_le, fun l9 nl9 => ?_⟩
        refine ⟨_, rfl, _, _, c0, rfl, rfl, by decide, by decide, c9, by rw [e0]; rfl, rfl, .inr ⟨_, rfl, ?_⟩⟩
        obtain ⟨k9, hk9, ek9⟩ : ∃ (k9 : Nat) (j9 : Nat), k9 ≤ 3 ∧ ([V.int 1, V.int 2] : List V)[j9]? = some (.int (k9 : Nat)) ∧ (if decide (V.str (⟨#[c0]⟩ : Str) = V.str "g") = true then (1 : Int) else 0) = (j9 : Int) := by
          by_cases h : V.str (⟨#[c0]⟩ : Str) = V.str "g"
          · exact ⟨2, 1, by decide, rfl, by rw [decide_eq_true h]; rfl⟩
          · exact ⟨1, 0, by decide, rfl, by rw [decide_eq_false h]; rfl⟩
        refine ⟨l9, _, _, .int (k9 : Nat), rfl, rfl, SqL.of upd_same, ?_, two_le, fun t9 nt9 => ?_⟩
        · rw [ek9.2.2]; exact atI_nat ek9.2.1
        have s9 : Same H' (upd (upd H' l9 (.lst [V.int 1, V.int 2])) t9 (.tup [V.str (S pp.2), V.int (k9 : Nat)])) := Same.up (Same.up (Same.refl _) nl9) nt9
        have eE2 := s9 _ _ eE
        have kp := tup_lst (ys := us2 ++ [V.ref t9]) eE2
        refine ⟨_, eE2, by rw [ul2]; exact Nat.lt_of_le_of_lt (show ms.length ≤ 5 by omega) (by decide), us2 ++ [.ref t9], ms ++ [(pp.2, k9)], fun b o e => ?_, upd_same, pairSnoc ((cm.imp (same_tup s9)).imp kp) ⟨t9, rfl, kp _ _ upd_same⟩, fun l hl => ?_, ?_⟩
        · rw [upd_ne (ne_of_none e nE)]; exact s9 _ _ (s b o e)
        · rcases List.mem_append.mp hl with hl | hl
          · exact mo l hl
          · rw [List.mem_singleton.mp hl]; exact ⟨o2.1, o2.2, ek9.1⟩
        · rw [List.length_append, List.length_singleton]; omega
      · have ul : us.length = ln.1.length := Paired.length h3
        have vl : vs.length = cs.length := Paired.length cl
        have ul2 : us2.length = ms.length := Paired.length cm
        refine ⟨D, E9, _, _, rfl, rfl, s _ _ eD, eE, ?_, fun p np => ?_⟩
        · exact Nat.le_trans (show vs.length + us2.length ≤ 100 by omega) (by decide)
        · have sE : Same H H' := fun b o e => s b o (s1 b o e)
          refine ⟨_, _, _, p, vs ++ us2, cs ++ ms, rfl, Same.up sE np, ?_, upd_same, pairApp ((cl.imp (same_tup s)).imp (newtup np)) (cm.imp (newtup np)), fun l hl => ?_, ?_⟩
          · cases e : H p with
            | none => rfl
            | some o => rw [sE _ _ e] at np; cases np
          · rcases List.mem_append.mp hl with hl | hl
            · exact co l hl
            · exact mo l hl
          · rw [List.length_append]; omega
    · rintro σ H1 ⟨y4, y5, y6, D, vs, cs, rfl, s1, nD, eD, cl, co, hl⟩
      have wl : ws.length = il.length := Paired.length hI
      have vl : vs.length = cs.length := Paired.length cl
      have c6 : c.length ≤ 5 := by
        have : ∀ o ∈ mods4, o.length ≤ 5 := by decide
        exact this c hc
      have cat : ∀ x : Nat, S [x] ++ S c = S (x :: c) := fun x => S_app [x] c
      refine ⟨_, rfl, _, rfl, _, _, rfl, rfl, addLe (m := 1) (litLe (by decide)) (SLe c6) (by decide), two_le, fun t1 nt1 => ?_⟩
      refine ⟨_, rfl, _, _, rfl, rfl, addLe (m := 1) (litLe (by decide)) (SLe c6) (by decide), two_le, fun t2 nt2 => ⟨two_le, fun l9 nl9 => ?_⟩⟩
      have x1 := Same.up (o := .tup [.str (Str.ofString "f" ++ S c), .int 1]) (Same.refl H1) nt1
      have x2 := Same.up (o := .tup [.str (Str.ofString "g" ++ S c), .int 2]) (Same.refl _) nt2
      have x3 := Same.up (o := .lst [.ref t1, .ref t2]) (Same.refl _) nl9
      have x123 : Same H1 _ := fun b o e => x3 _ _ (x2 _ _ (x1 _ _ e))
      have e1 := x3 _ _ (x2 _ _ (upd_same (a := t1) (o := .tup [.str (Str.ofString "f" ++ S c), .int 1])))
      have e2 := x3 _ _ (upd_same (a := t2) (o := .tup [.str (Str.ofString "g" ++ S c), .int 2]))
      have hf : ∀ o ∈ mods4, nmB (102 :: o) = true ∧ nmB (103 :: o) = true := by decide +kernel
      refine ⟨D, l9, _, _, rfl, rfl, x123 _ _ eD, upd_same, Nat.le_trans (show vs.length + 2 ≤ 100 by omega) (by decide), fun p np => ?_⟩
      have sE : Same H _ := fun b o e => x123 b o (s1 b o e)
      refine q _ p (cs ++ [(102 :: c, 1), (103 :: c, 2)]) (Same.up sE np) ?_ ⟨⟨_, upd_same, pairApp ((cl.imp (same_tup x123)).imp (newtup np)) (.cons ⟨t1, rfl, newtup np _ _ ?_⟩ (.cons ⟨t2, rfl, newtup np _ _ ?_⟩ .nil))⟩, fun l hl => ?_, ?_⟩ ?_
      · cases e : H p with
        | none => rfl
        | some o => rw [sE _ _ e] at np; cases np
      · rw [← cat]; exact e1
      · rw [← cat]; exact e2
      · rcases List.mem_append.mp hl with hl | hl
        · exact co l hl
        · simp only [List.mem_cons, List.not_mem_nil, or_false] at hl
          rcases hl with rfl | rfl
          · exact ⟨(hf c hc).1, by simp; omega, (by show (_ : Nat) ≤ 3; simp)⟩
          · exact ⟨(hf c hc).2, by simp; omega, (by show (_ : Nat) ≤ 3; simp)⟩
      · rw [List.length_append]; simp; omega
      · rw [List.length_append]; simp; omega
end
end K3

set_option maxRecDepth 100000
set_option maxHeartbeats 16000000
/-! drawn modules -/
namespace K3
open PySem hiding Tok code
open PySem.Spec PyProof.Rows GD K1
open L2 hiding rest
open K2 hiding Sp P
abbrev sModule : Stmt := topS 25
inductive Ln where
  | lst (w : Bool) (ps : List (NM × NM)) (m : NM)
  | lt (k : Bool) (x : NM) (t : Tr)
  | fn (f : NM) (ps : List NM) (t : Tr)
  | dw (k : Bool) (t : Tr)
def lnW : Ln → Str
  | .lst w _ _ => if w then "export" else "import"
  | .lt k _ _ => if k then "keep" else "let"
  | .fn _ _ _ => "fn"
  | .dw k _ => if k then "hold" else "do"
def LV (H : Hp) (v : V) : Ln → Prop
  | .lst w ps m => ∃ q a us, v = .ref q ∧ H q = some (.tup [.str (lnW (.lst w ps m)), .ref a, .str (S m)]) ∧ H a = some (.tup us) ∧ PL H us ps
  | .lt k x t => ∃ q u, v = .ref q ∧ H q = some (.tup [.str (lnW (.lt k x t)), .str (S x), u]) ∧ TV H t u
  | .fn f ps t => ∃ q r u, v = .ref q ∧ H q = some (.tup [.str "fn", .str (S f), .ref r, u]) ∧ H r = some (.tup (ps.map fun l => V.str (S l))) ∧ TV H t u
  | .dw k t => ∃ q u, v = .ref q ∧ H q = some (.tup [.str (lnW (.dw k t)), u]) ∧ TV H t u
theorem LV.imp {H H' : Hp} (k : ∀ q xs, H q = some (.tup xs) → H' q = some (.tup xs)) {v : V} : ∀ {l : Ln}, LV H v l → LV H' v l
  | .lst _ _ _, ⟨q, a, us, e, h1, h2, h3⟩ => ⟨q, a, us, e, k _ _ h1, k _ _ h2, h3.imp k⟩
  | .lt _ _ t, ⟨q, u, e, h1, h2⟩ => ⟨q, u, e, k _ _ h1, TV.imp k t u h2⟩
  | .fn _ _ t, ⟨q, r, u, e, h1, h2, h3⟩ => ⟨q, r, u, e, k _ _ h1, k _ _ h2, TV.imp k t u h3⟩
  | .dw _ t, ⟨q, u, e, h1, h2⟩ => ⟨q, u, e, k _ _ h1, TV.imp k t u h2⟩
abbrev LVs (H : Hp) (vs : List V) (ls : List Ln) : Prop := Paired (fun v l => LV H v l) vs ls
theorem LVs.imp {H H' : Hp} (k : ∀ q xs, H q = some (.tup xs) → H' q = some (.tup xs)) {vs : List V} {ls : List Ln} (h : LVs H vs ls) : LVs H' vs ls := pairImp (fun _ _ h => LV.imp k h) h
def MV (H : Hp) (v : V) (ls : List Ln) : Prop := ∃ q vs, v = .ref q ∧ H q = some (.tup vs) ∧ LVs H vs ls
theorem MV.imp {H H' : Hp} (k : ∀ q xs, H q = some (.tup xs) → H' q = some (.tup xs)) {v : V} {ls : List Ln} (h : MV H v ls) : MV H' v ls := by
  obtain ⟨q, vs, e, h1, h2⟩ := h
  exact ⟨q, vs, e, k _ _ h1, LVs.imp k h2⟩
theorem ILs.lv {H : Hp} {ws : List V} {il : List (List (NM × NM) × NM)} (h : ILs H ws il) : LVs H ws (il.map fun l => .lst false l.1 l.2) := by
  induction h with
  | nil => exact .nil
  | cons r _ ih => exact .cons r ih
def ownB (c : NM) (t1 t2 t3 t4 t5 : Tr) : List Ln := [.lt false (120 :: c) t1, .fn (102 :: c) [[112]] t2, .lt false (121 :: c) t3, .lt true (107 :: c) t4, .fn (103 :: c) [[112], [113]] t5]
/-- the own lines of a drawn module -/
def OwnP (c : NM) (own : List Ln) : Prop := ∃ t1 t2 t3 t4 t5 dos hos, (∀ t ∈ [t1, t2, t3, t4, t5], Dr 3 t) ∧ (dos = [] ∨ ∃ t, Dr 3 t ∧ dos = [Ln.dw false t]) ∧ (hos = [] ∨ ∃ t, Dr 3 t ∧ hos = [Ln.dw true t]) ∧
  (own = ownB c t1 t2 t3 t4 t5 ++ dos ++ hos ∨ own = (ownB c t1 t2 t3 t4 t5 ++ dos ++ hos).drop 2 ++ (ownB c t1 t2 t3 t4 t5 ++ dos ++ hos).take 2)
structure DM (c : NM) (os : List NM) (ls : List Ln) : Prop where
  ex : ∃ il own, ls = (il.map fun l : List (NM × NM) × NM => Ln.lst false l.1 l.2) ++ own ∧ ImpP c os il ∧ il.length ≤ os.length ∧ OwnP c own
/-- what stands while a module is drawn -/
structure MI (b d : Addr) (ds : List Int) (H0 : Hp) (Dl Dn Dc Dm Dw : Addr) (lw : List V) (il : List (List (NM × NM) × NM)) (ns : List NM) (cs : List (NM × Nat)) (ms : List NM) (ww : List V) (own : List Ln) (H : Hp) (k : Nat) : Prop where
  s : Bs b d ds H0 H k
  l : H Dl = some (.lst lw)
  il_ : ILs H lw il
  n : Nam H Dn ns
  c : Cal H Dc cs
  m : Nam H Dm ms
  w : H Dw = some (.lst ww)
  ow : LVs H ww own
  bl : Dl ≠ b
  bw : Dw ≠ b
  w0 : H0 Dw = none
  wl : Dw ≠ Dl
  wn : Dw ≠ Dn
  wc : Dw ≠ Dc
  wm : Dw ≠ Dm
theorem MI.bs {b d : Addr} {ds : List Int} {H0 H H' : Hp} {Dl Dn Dc Dm Dw : Addr} {lw il ns cs ms ww own} {k k' : Nat} (v : MI b d ds H0 Dl Dn Dc Dm Dw lw il ns cs ms ww own H k) (y : Bs b d ds H H' k') : MI b d ds H0 Dl Dn Dc Dm Dw lw il ns cs ms ww own H' k' :=
  ⟨v.s.trans y, y.bx _ _ v.bl v.l, v.il_.imp (Bs.tup y v.s.box), v.n.bs v.s.box y, v.c.bs v.s.box y, v.m.bs v.s.box y, y.bx _ _ v.bw v.w, LVs.imp (Bs.tup y v.s.box) v.ow, v.bl, v.bw, v.w0, v.wl, v.wn, v.wc, v.wm⟩
theorem MI.put {b d : Addr} {ds : List Int} {H0 H : Hp} {Dl Dn Dc Dm Dw : Addr} {lw il ns cs ms ww own} {k k0 : Nat} {v : V} {l : Ln} (h : MI b d ds H0 Dl Dn Dc Dm Dw lw il ns cs ms ww own H k) (x : Box H0 b d ds k0) (hv : LV H v l) :
    MI b d ds H0 Dl Dn Dc Dm Dw lw il ns cs ms (ww ++ [v]) (own ++ [l]) (upd H Dw (.lst (ww ++ [v]))) k := by
  have kp := tup_lst (ys := ww ++ [v]) h.w
  obtain ⟨vs, c1, c2⟩ := h.c.ex
  exact ⟨h.s.wr x h.w0, by rw [upd_ne h.wl.symm]; exact h.l, h.il_.imp kp, ⟨by rw [upd_ne h.wn.symm]; exact h.n.at_, h.n.ok, h.n.sm⟩, ⟨⟨vs, by rw [upd_ne h.wc.symm]; exact c1, CL.imp kp c2⟩, h.c.ok, h.c.sm⟩, ⟨by rw [upd_ne h.wm.symm]; exact h.m.at_, h.m.ok, h.m.sm⟩, upd_same,
    pairSnoc (LVs.imp kp h.ow) (LV.imp kp hv), h.bl, h.bw, h.w0, h.wl, h.wn, h.wc, h.wm⟩
theorem MI.done {b d : Addr} {ds : List Int} {H0 H : Hp} {Dl Dn Dc Dm Dw : Addr} {lw il ns cs ms ww own} {k : Nat} (m : MI b d ds H0 Dl Dn Dc Dm Dw lw il ns cs ms ww own H k) {wx : List V} {ox : List Ln} (hx : LVs H wx ox) {p q9 : Addr} (np : H p = none)
    (nq : upd H p (.lst (lw ++ wx)) q9 = none) : Bs b d ds H0 (upd (upd H p (.lst (lw ++ wx))) q9 (.tup (lw ++ wx))) k ∧ MV (upd (upd H p (.lst (lw ++ wx))) q9 (.tup (lw ++ wx))) (.ref q9) ((il.map fun l : List (NM × NM) × NM => Ln.lst false l.1 l.2) ++ ox) :=
  ⟨(m.s.new np).new nq, q9, _, rfl, upd_same, pairApp ((m.il_.imp (newtup np)).imp (newtup nq)).lv (LVs.imp (newtup nq) (LVs.imp (newtup np) hx))⟩
theorem MI.rot {b d : Addr} {ds : List Int} {H0 H : Hp} {Dl Dn Dc Dm Dw : Addr} {lw il ns cs ms ww own} {k : Nat} (m : MI b d ds H0 Dl Dn Dc Dm Dw lw il ns cs ms ww own H k) {u1 u2 u3 : Addr} (n1 : H u1 = none) (n2 : upd H u1 (.lst (ww.drop 2)) u2 = none)
    (n3 : upd (upd H u1 (.lst (ww.drop 2))) u2 (.lst (ww.take 2)) u3 = none) : MI b d ds H0 Dl Dn Dc Dm Dw lw il ns cs ms ww own (upd (upd (upd H u1 (.lst (ww.drop 2))) u2 (.lst (ww.take 2))) u3 (.lst (ww.drop 2 ++ ww.take 2))) k :=
  m.bs ((((Bs.refl m.s.box).new n1).new n2).new n3)
theorem pairTake {α β : Type} {R : α → β → Prop} {l : List α} {m : List β} (h : Paired R l m) : ∀ n, Paired R (l.take n) (m.take n) := by
  induction h with
  | nil => intro n; simp only [List.take_nil]; exact .nil
  | cons r _ ih =>
    intro n
    cases n with
    | zero => exact .nil
    | succ n => exact .cons r (ih n)
theorem newtupL {H : Hp} {x : Addr} {o : HO} (nx : H x = none) : ∀ q xs, H q = some (.lst xs) → upd H x o q = some (.lst xs) := fun q xs hq => by rw [upd_ne (ne_of_none hq nx)]; exact hq
theorem pairDrop {α β : Type} {R : α → β → Prop} {l : List α} {m : List β} (h : Paired R l m) : ∀ n, Paired R (l.drop n) (m.drop n) := by
  induction h with
  | nil => intro n; simp only [List.drop_nil]; exact .nil
  | cons r t ih =>
    intro n
    cases n with
    | zero => exact .cons r t
    | succ n => exact ih n
theorem cutD2 (xs : List V) : cutV xs (some 2) none = xs.drop 2 := by
  unfold cutV
  have e1 : HT.sIx xs.length 0 (some 2) = min 2 xs.length := HT.sIx_nat _ _ 2
  have e2 : HT.sIx xs.length xs.length none = xs.length := rfl
  rw [e1, e2]
  rcases Nat.le_total 2 xs.length with h | h
  · rw [Nat.min_eq_left h]
    exact List.take_of_length_le (by rw [List.length_drop]; omega)
  · rw [Nat.min_eq_right h, List.drop_length, List.take_nil]
    exact (List.drop_eq_nil_of_le h).symm
theorem cutT2 (xs : List V) : cutV xs none (some 2) = xs.take 2 := by
  unfold cutV
  have e1 : HT.sIx xs.length 0 none = 0 := rfl
  have e2 : HT.sIx xs.length xs.length (some 2) = min 2 xs.length := HT.sIx_nat _ _ 2
  rw [e1, e2, List.drop_zero, Nat.sub_zero]
  exact (List.take_eq_take_min).symm
theorem rot_len {α : Type} (xs : List α) : (xs.drop 2 ++ xs.take 2).length ≤ xs.length := by
  rw [List.length_append, List.length_drop, List.length_take]
  omega
theorem rot_len2 {α : Type} (xs : List α) : (xs.drop 2).length + (xs.take 2).length ≤ xs.length := by
  rw [List.length_drop, List.length_take]
  omega
theorem szl {n : Nat} (h : n ≤ 1000) : n < sizeLine := Nat.lt_of_le_of_lt h (by decide)
theorem szle {n : Nat} (h : n ≤ 1000) : n ≤ sizeLine := Nat.le_trans h (by decide)
theorem one_le : 1 ≤ sizeLine := by decide
theorem Cal.nil {H : Hp} {l : Addr} (h : H l = some (.lst [])) : Cal H l [] := ⟨⟨[], h, .nil⟩, fun c hc => (by cases hc), by decide⟩
theorem own_names : ∀ c ∈ mods4, nmB (120 :: c) = true ∧ nmB (121 :: c) = true ∧ nmB (102 :: c) = true ∧ nmB (103 :: c) = true ∧ c.length = 1 := by decide +kernel
theorem Nam.add {H : Hp} {p : Addr} {ns ms : List NM} (h : H p = some (.lst ((ns.map fun l => V.str (S l)) ++ (ms.map fun l => V.str (S l))))) (o1 : ∀ l ∈ ns, nmB l = true ∧ l.length ≤ 6) (o2 : ∀ l ∈ ms, nmB l = true ∧ l.length ≤ 6) (hs : ns.length + ms.length ≤ 500) : Nam H p (ns ++ ms) :=
  ⟨by rw [h, cat_str], fun l hl => (List.mem_append.mp hl).elim (o1 l) (o2 l), by rw [List.length_append]; exact hs⟩
theorem cutV2 (xs : List V) : cutV xs none (some (-2)) = xs.take (xs.length - 2) := by
  unfold cutV
  have e1 : HT.sIx xs.length 0 none = 0 := rfl
  have e2 : HT.sIx xs.length xs.length (some (-2)) = xs.length - 2 := by
    show (if (-2 : Int) < 0 then ((-2 : Int) + (xs.length : Int)).toNat else min (-2 : Int).toNat xs.length) = _
    rw [if_pos (by decide)]
    omega
  rw [e1, e2, List.drop_zero, Nat.sub_zero]
theorem holdPick {H : Hp} {a1 a2 a3 a4 a5 : Addr} {c : NM} (hc : c ∈ mods4) (f1 : H a1 = some (.tup [.str "string", .str (Str.ofString "r" ++ S c)])) (f2 : H a2 = some (.tup [.str "string", .str "common"])) (f3 : H a3 = some (.tup [.str "string", .str "r"]))
    (f4 : H a4 = some (.tup [.str "string", .str (S c)])) (f5 : H a5 = some (.tup [.str "+", .ref a3, .ref a4])) (j : Nat) (hj : j < 3) : ∃ vi ti, ([V.ref a1, V.ref a2, V.ref a5] : List V)[j]? = some vi ∧ TV H ti vi ∧ Dr 3 ti := by
  have mc : ∀ x ∈ c, mayB x = true := by
    have : ∀ c ∈ mods4, ∀ x ∈ c, mayB x = true := by decide
    exact this c hc
  have c1 := (own_names c hc).2.2.2.2
  match j, hj with
  | 0, _ =>
    refine ⟨.ref a1, .str (114 :: c), rfl, ?_, .str (by simp; omega) (fun x hx => ?_)⟩
    · rw [TV]; refine ⟨a1, rfl, ?_⟩; rw [f1]; exact congrArg (fun z => some (HO.tup [.str "string", .str z])) (S_app [114] c)
    · rcases List.mem_cons.mp hx with rfl | hx
      · decide
      · exact mc x hx
  | 1, _ => exact ⟨.ref a2, .str (code "common"), rfl, by rw [TV]; exact ⟨a2, rfl, f2⟩, .str (by decide +kernel) (by decide +kernel)⟩
  | 2, _ =>
    refine ⟨.ref a5, .op 43 (.str [114]) (.str c), rfl, ?_, .op (by decide) (.str (by decide) (by decide)) (.str (by omega) mc)⟩
    rw [TV]
    refine ⟨a5, .ref a3, .ref a4, rfl, f5, ?_, ?_, by decide⟩
    · rw [TV]; exact ⟨a3, rfl, f3⟩
    · rw [TV]; exact ⟨a4, rfl, f4⟩
section
variable {P : Program} {w : World} {K : PySem.W.Frag} {mg : Str → Option Value} {base : Heap}
def spMod : L2.Sp := fun vs H Q _ => ∃ (b d : Addr) (ds : List Int) (n : Nat) (c : NM) (lo : Addr) (os : List NM), vs = [.ref b, .str (S c), .ref lo] ∧ Box H b d ds n ∧ Nam H lo os ∧ (∀ o ∈ os, o ∈ mods4) ∧ os.length ≤ 4 ∧ c ∈ mods4 ∧
  ∀ H' v n' ls, Bs b d ds H H' n' → MV H' v ls → DM c os ls → Q v H'
theorem scMod : FnScope ["box", "name", "others", "lines", "names", "calls", "row", "mine", "own", "every", "kind"] ["box", "name", "others"] (defScope sModule) := ⟨rfl, rfl, rfl, by decide +kernel, rfl, by decide +kernel, by decide +kernel⟩
theorem ok_module {f f1 f2 f3 f4 f5 : Addr} {fd fd1 fd2 fd3 fd4 fd5 : FuncData} (F : Fun K "_law_module" "_law_module" sModule f fd) (T : Txt K mg) (T2 : Txt2 mg) (FD : FO P w K mg base CX0 1 "_law_draw" ["box", "many"] spDraw f1 fd1)
    (FI : FO P w K mg base CX0 2 "_law_imports" ["box", "name", "others"] spImp f2 fd2) (FU : FO P w K mg base CX0 2 "_law_usable" ["lines", "name", "wanted"] spUsable f3 fd3) (FC : FO P w K mg base CX0 1 "_law_calls" ["lines", "name"] spCalls f4 fd4)
    (FT : FO P w K mg base CX0 5 "_law_tree" ["box", "names", "calls", "depth"] (spTr 3) f5 fd5) : FnOk P w K mg base CX0 6 f fd ["box", "name", "others"] spMod := by
  have sc := scMod
  refine F.ok sc (fun vs H Q E h => ?_) (fun cdv A outer s H vs Q E hr h => ?_)
  · obtain ⟨b, d, ds, n, c, lo, os, rfl, _⟩ := h
    rfl
  · obtain ⟨b, d, ds, n, c, lo, os, rfl, hB, hN, hO, hL, hc, q⟩ := h
    have hr1 := hr.mono (show 1 ≤ 5 by decide)
    have hr2 := hr.mono (show 2 ≤ 5 by decide)
    refine ⟨_, (pss_cons (ps_set (i := 3) sc.nd rfl (Or.inl rfl) (pe_call FI.ok hr2 (by rfl) FI.m FI.kp FI.b .nil pass0 (pa_cons (pv 0) (pa_cons (pv 1) (pa_cons (pv 2) pa_nil)))))
      (pss_cons (ps_set (i := 4) sc.nd rfl (Or.inl rfl) (pe_slice sl_list (pe_call FU.ok hr2 (by rfl) FU.m FU.kp FU.b .nil pass0 (pa_cons (pv 3) (pa_cons (pv 1) (pa_cons pe_str pa_nil)))) po_none (po_some (pe_un un_neg pe_int))))
      (pss_cons (ps_setLc (i := 5) (own := [("row", 6)]) rfl sc.nd rfl rfl (sw_true rfl rfl rfl (by decide +kernel)) (pi_list (pe_slice sl_list (pe_call FC.ok hr1 (by rfl) FC.m FC.kp FC.b .nil pass0 (pa_cons (pv 3) (pa_cons (pv 1) pa_nil))) po_none (po_some (pe_un un_neg pe_int)))) (blkOk_by (own := [("row", 6)]) (N := ["box", "name", "others", "lines", "names", "calls", "row", "mine", "own", "every", "kind"]) (sc := defScope sModule) (by decide +kernel)) (fun _ _ _ _ _ => (pg_name (i := 6) sc.nd rfl (Or.inl rfl))) (fun _ _ _ _ _ => (pts_one (pt_cmpR op_eq (pe_ix (show IxR _ (rIxT K) from ix_tup) (pv 6) pe_int (fun _ _ => rfl)) pe_int (nomark _)))) (fun _ _ _ _ _ => (pv 6)))
      (pss_cons (ps_set (i := 7) sc.nd rfl (Or.inl rfl) (pe_op op_cat (pv 4) (pe_lst (pa_cons (pe_op op_add_str pe_str (pv 1)) pa_nil))))
      (pss_cons (ps_set (i := 8) sc.nd rfl (Or.inl rfl) (pe_lst pa_nil))
      (pss_cons (ps_expr (pe_bm PySem.F.plainAttrs_list PySem.F.slot_list_append PySem.F.type_list_append mt_append (pv 8) (pa_cons (pe_tup (pa_cons pe_str (pa_cons (pe_op op_add_str pe_str (pv 1)) (pa_cons (pe_call FT.ok hr (by rfl) FT.m FT.kp FT.b .nil pass0 (pa_cons (pv 0) (pa_cons (pv 4) (pa_cons (pv 5) (pa_cons pe_int pa_nil))))) pa_nil)))) pa_nil)))
      (pss_cons (ps_expr (pe_bm PySem.F.plainAttrs_list PySem.F.slot_list_append PySem.F.type_list_append mt_append (pv 8) (pa_cons (pe_tup (pa_cons pe_str (pa_cons (pe_op op_add_str pe_str (pv 1)) (pa_cons (pe_tup (pa_cons pe_str pa_nil)) (pa_cons (pe_call FT.ok hr (by rfl) FT.m FT.kp FT.b .nil pass0 (pa_cons (pv 0) (pa_cons (pe_op op_cat (pv 7) (pe_lst (pa_cons pe_str pa_nil))) (pa_cons (pe_lst pa_nil) (pa_cons pe_int pa_nil))))) pa_nil))))) pa_nil)))
      (pss_cons (ps_expr (pe_bm PySem.F.plainAttrs_list PySem.F.slot_list_append PySem.F.type_list_append mt_append (pv 8) (pa_cons (pe_tup (pa_cons pe_str (pa_cons (pe_op op_add_str pe_str (pv 1)) (pa_cons (pe_call FT.ok hr (by rfl) FT.m FT.kp FT.b .nil pass0 (pa_cons (pv 0) (pa_cons (pv 7) (pa_cons (pe_op op_cat (pv 5) (pe_lst (pa_cons (pe_tup (pa_cons (pe_op op_add_str pe_str (pv 1)) (pa_cons pe_int pa_nil))) pa_nil))) (pa_cons pe_int pa_nil))))) pa_nil)))) pa_nil)))
      (pss_cons (ps_expr (pe_bm PySem.F.plainAttrs_list PySem.F.slot_list_append PySem.F.type_list_append mt_append (pv 8) (pa_cons (pe_tup (pa_cons pe_str (pa_cons (pe_op op_add_str pe_str (pv 1)) (pa_cons (pe_call FT.ok hr (by rfl) FT.m FT.kp FT.b .nil pass0 (pa_cons (pv 0) (pa_cons (pv 7) (pa_cons (pe_lst pa_nil) (pa_cons pe_int pa_nil))))) pa_nil)))) pa_nil)))
      (pss_cons (ps_set (i := 9) sc.nd rfl (Or.inl rfl) (pe_call FU.ok hr2 (by rfl) FU.m FU.kp FU.b .nil pass0 (pa_cons (pv 3) (pa_cons (pv 1) (pa_cons pe_str pa_nil)))))
      (pss_cons (ps_expr (pe_bm PySem.F.plainAttrs_list PySem.F.slot_list_append PySem.F.type_list_append mt_append (pv 8) (pa_cons (pe_tup (pa_cons pe_str (pa_cons (pe_op op_add_str pe_str (pv 1)) (pa_cons (pe_tup (pa_cons pe_str (pa_cons pe_str pa_nil))) (pa_cons (pe_call FT.ok hr (by rfl) FT.m FT.kp FT.b .nil pass0 (pa_cons (pv 0) (pa_cons (pe_op op_cat (pv 9) (pe_lst (pa_cons pe_str (pa_cons pe_str pa_nil)))) (pa_cons (pv 5) (pa_cons pe_int pa_nil))))) pa_nil))))) pa_nil)))
      (pss_cons (ps_set (i := 10) sc.nd rfl (Or.inl rfl) (pe_call FD.ok hr1 (by rfl) FD.m FD.kp FD.b .nil pass0 (pa_cons (pv 0) (pa_cons pe_int pa_nil))))
      (pss_cons (ps_if (pt_cmpR op_le (pv 10) pe_int (nomark _))
      (pss_one (ps_expr (pe_bm PySem.F.plainAttrs_list PySem.F.slot_list_append PySem.F.type_list_append mt_append (pv 8) (pa_cons (pe_tup (pa_cons pe_str (pa_cons (pe_call FT.ok hr (by rfl) FT.m FT.kp FT.b .nil pass0 (pa_cons (pv 0) (pa_cons (pe_op op_cat (pv 7) (pe_lst (pa_cons (pe_op op_add_str pe_str (pv 1)) pa_nil))) (pa_cons (pe_ix ix_list (pe_lst (pa_cons (pv 5) (pa_cons (pe_call FC.ok hr1 (by rfl) FC.m FC.kp FC.b .nil pass0 (pa_cons (pv 3) (pa_cons (pv 1) pa_nil))) pa_nil))) (pv 10) (fun _ _ => rfl)) (pa_cons pe_int pa_nil))))) pa_nil))) pa_nil))))
      pss_nil)
      (pss_cons (ps_if (pt_cmpR op_le (pv 10) pe_int (nomark _))
      (pss_one (ps_expr (pe_bm PySem.F.plainAttrs_list PySem.F.slot_list_append PySem.F.type_list_append mt_append (pv 8) (pa_cons (pe_tup (pa_cons pe_str (pa_cons (pe_ix ix_list (pe_lst (pa_cons (pe_tup (pa_cons pe_str (pa_cons (pe_op op_add_str pe_str (pv 1)) pa_nil))) (pa_cons (pe_tup (pa_cons pe_str (pa_cons pe_str pa_nil))) (pa_cons (pe_tup (pa_cons pe_str (pa_cons (pe_tup (pa_cons pe_str (pa_cons pe_str pa_nil))) (pa_cons (pe_tup (pa_cons pe_str (pa_cons (pv 1) pa_nil))) pa_nil)))) pa_nil)))) (pe_call FD.ok hr1 (by rfl) FD.m FD.kp FD.b .nil pass0 (pa_cons (pv 0) (pa_cons pe_int pa_nil))) (fun _ _ => rfl)) pa_nil))) pa_nil))))
      pss_nil)
      (pss_cons (ps_if (pt_cmpR op_eq (pe_call FD.ok hr1 (by rfl) FD.m FD.kp FD.b .nil pass0 (pa_cons (pv 0) (pa_cons pe_int pa_nil))) pe_int (nomark _))
      (pss_one (ps_set (i := 8) sc.nd rfl (Or.inl rfl) (pe_op op_cat (pe_slice sl_list (pv 8) (po_some pe_int) po_none) (pe_slice sl_list (pv 8) po_none (po_some pe_int)))))
      pss_nil)
      (pss_one (ps_ret (pe_callTy call_tuple_of (by rfl) T2.btuple (by decide +kernel) (pa_cons (pe_op op_cat (pv 3) (pv 8)) pa_nil))))))))))))))))))), ?_⟩
    refine ⟨_, rfl, _, rfl, _, rfl, b, d, ds, n, c, lo, os, rfl, hB, hN, hO, hL, fun H1 n1 Dl lw il s1 nl eDl ils ip hil => ?_⟩
    have iok := ip.ok hO
    have il4 : il.length ≤ 4 := by omega
    have c1 : c.length ≤ 6 := by have := (own_names c hc).2.2.2.2; omega
    have ax : ∀ z : Str, z.length ≤ 1 → z.length + (S c).length ≤ sizeLine := fun z h => addLe h (SLe c1) (by decide)
    have cat : ∀ x : Nat, S [x] ++ S c = S (x :: c) := fun x => S_app [x] c
    -- names
    refine ⟨_, rfl, _, rfl, Dl, lw, il, c, code "xy", rfl, eDl, ils, iok, il4, hc, fun H2 Dx nx s2 nDx hNx lx => ⟨_, rfl, _, rfl, Dx, _, rfl, SqL.of hNx.at_, fun Dn nDn => ?_⟩⟩
    rw [cutV2]
    have nN : Nam (upd H2 Dn (.lst ((nx.map fun l => V.str (S l)).take ((nx.map fun l => V.str (S l)).length - 2)))) Dn (nx.take (nx.length - 2)) :=
      ⟨by rw [upd_same, List.map_take, List.length_map], fun l hl => hNx.ok l (List.mem_of_mem_take hl), by have := hNx.sm; rw [List.length_take]; omega⟩
    have nnl : (nx.take (nx.length - 2)).length ≤ 17 := by rw [List.length_take]; omega
    have s3 : Same H1 _ := Same.up (o := .lst ((nx.map fun l => V.str (S l)).take ((nx.map fun l => V.str (S l)).length - 2))) s2 nDn
    generalize nx.take (nx.length - 2) = ns at nN nnl
    -- calls
    refine ⟨_, rfl, _, rfl, Dl, lw, il, c, rfl, s3 _ _ eDl, ils.imp (same_tup s3), iok, il4, hc, fun H4 Dy cy s4 nDy hCy ly => ⟨_, rfl, _, rfl, Dy, ?_⟩⟩
    obtain ⟨vy, ey1, ey2⟩ := hCy.ex
    refine ⟨vy, rfl, SqL.of ey1, fun Dz nDz => ⟨Dz, rfl, ⟨_, SqL.of upd_same⟩, fun Dc nDc => ?_⟩⟩
    rw [cutV2]
    have nDc : upd H4 Dz (.lst (vy.take (vy.length - 2))) Dc = none := by rw [← cutV2]; exact nDc
    have nN4 : Nam H4 Dn ns := ⟨s4 _ _ nN.at_, nN.ok, nN.sm⟩
    have ty : CL (upd H4 Dz (.lst (vy.take (vy.length - 2)))) (vy.take (vy.length - 2)) (cy.take (vy.length - 2)) := CL.imp (newtup nDz) (pairTake ey2 _)
    have vyl : vy.length = cy.length := Paired.length ey2
    refine lc_list (K := K) (a := Dz) (xs := vy.take (vy.length - 2)) (fun j H' => ∃ (us : List V) (ms : List (NM × Nat)), Same (upd H4 Dz (.lst (vy.take (vy.length - 2)))) H' ∧ H' Dc = some (.lst us) ∧ CL H' us ms ∧ (∀ c ∈ ms, cOk c) ∧ ms.length ≤ j)
      ⟨[], [], Same.up (Same.refl _) nDc, upd_same, .nil, fun l hl => (by cases hl), Nat.le_refl _⟩ (fun j H' _ ⟨_, _, s, _⟩ => SqL.of (s _ _ upd_same)) (fun j x H' hx ⟨us, ms, s, eE, cm, mo, ml⟩ => ?_) (fun H' ⟨us, cs, s, eE, cm, mo, ml⟩ => ?_)
    · obtain ⟨cc, ecc, r9, rfl, hr9⟩ := pairGetR ty hx
      have hcc := hCy.ok cc (List.mem_of_mem_take (List.mem_of_getElem? ecc))
      have jl : j < (vy.take (vy.length - 2)).length := (List.getElem?_eq_some_iff.mp hx).1
      rw [List.length_take] at jl
      refine ⟨rfl, _, rfl, r9, _, _, _, rfl, rfl, SqT.of (s _ _ hr9), atI_nat (j := 1) rfl, rfl, _, rfl, ite2 (fun _ => ?_) (fun _ => ⟨us, ms, s, eE, cm, mo, by omega⟩)⟩
      have ul : us.length = ms.length := Paired.length cm
      have kp := tup_lst (ys := us ++ [V.ref r9]) eE
      refine ⟨_, rfl, _, eE, szl (by omega), us ++ [.ref r9], ms ++ [cc], fun b o e => ?_, upd_same, pairSnoc (CL.imp kp cm) ⟨r9, rfl, kp _ _ (s _ _ hr9)⟩, fun l hl => ?_, ?_⟩
      · rw [upd_ne (ne_of_none e nDc)]; exact s b o e
      · rcases List.mem_append.mp hl with hl | hl
        · exact mo l hl
        · rw [List.mem_singleton.mp hl]; exact hcc
      · rw [List.length_append, List.length_singleton]; omega
    rw [List.length_take] at ml
    have s5 : Same H4 H' := fun b o e => s b o (by rw [upd_ne (ne_of_none e nDz)]; exact e)
    have nN5 : Nam H' Dn ns := ⟨s5 _ _ nN4.at_, nN4.ok, nN4.sm⟩
    have cC5 : Cal H' Dc cs := ⟨⟨us, eE, cm⟩, mo, by omega⟩
    have s15 : Same H1 H' := fun b o e => s5 _ _ (s4 _ _ (s3 _ _ e))
    -- mine
    refine ⟨_, rfl, _, rfl, _, _, rfl, rfl, ax _ (by decide), one_le, fun l1 nl1 => ⟨Dn, l1, _, _, rfl, rfl, by rw [upd_ne (ne_of_none nN5.at_ nl1)]; exact nN5.at_, upd_same, szle (by rw [List.length_map]; show ns.length + 1 ≤ 1000; omega), fun Dm nDm => ⟨Nat.zero_le _, fun Dw nDw => ?_⟩⟩⟩
    have s16 : Same H1 _ := Same.up (o := .lst []) (Same.up (o := .lst ((ns.map fun l => V.str (S l)) ++ [.str (Str.ofString "x" ++ S c)])) (Same.up (o := .lst [.str (Str.ofString "x" ++ S c)]) s15 nl1) nDm) nDw
    have s56 : Same H' _ := Same.up (o := .lst []) (Same.up (o := .lst ((ns.map fun l => V.str (S l)) ++ [.str (Str.ofString "x" ++ S c)])) (Same.up (o := .lst [.str (Str.ofString "x" ++ S c)]) (Same.refl _) nl1) nDm) nDw
    have ndmw : Dm ≠ Dw := ne_of_none upd_same nDw
    have on := own_names c hc
    have mM : Nam (upd (upd (upd H' l1 (.lst [.str (Str.ofString "x" ++ S c)])) Dm (.lst ((ns.map fun l => V.str (S l)) ++ [.str (Str.ofString "x" ++ S c)]))) Dw (.lst [])) Dm (ns ++ [120 :: c]) :=
      Nam.add (ms := [120 :: c]) (by rw [upd_ne ndmw, upd_same]; show _ = some (HO.lst ((ns.map fun l => V.str (S l)) ++ [.str (S (120 :: c))])); rw [← cat]; rfl) nN5.ok (fun l hl => by rw [List.mem_singleton.mp hl]; exact ⟨on.1, by simp; omega⟩) (by simp; omega)
    have wfree : ∀ {o u}, H' o = some u → Dw ≠ o := fun {o u} e => (ne_of_none (Same.up (o := .lst ((ns.map fun l => V.str (S l)) ++ [.str (Str.ofString "x" ++ S c)])) (Same.up (o := .lst [.str (Str.ofString "x" ++ S c)]) (Same.refl _) nl1) nDm _ _ e) nDw).symm
    have mi0 : MI b d ds H Dl Dn Dc Dm Dw lw il ns cs (ns ++ [120 :: c]) [] [] _ n1 := ⟨s1.same s16, s16 _ _ eDl, ils.imp (same_tup s16), ⟨s56 _ _ nN5.at_, nN5.ok, nN5.sm⟩, ⟨⟨us, s56 _ _ eE, CL.imp (same_tup s56) cm⟩, mo, cC5.sm⟩, mM, upd_same, .nil, box_lst hB nl,
      fun z => by rw [z] at nDw; exact absurd nDw (by rw [(s1.same (Same.up (Same.up s15 nl1) nDm)).box.1]; intro e; cases e), (s1.same (Same.up (Same.up s15 nl1) nDm)).free _ nDw, wfree (s15 _ _ eDl), wfree nN5.at_, wfree eE, ndmw.symm⟩
    have msl : (ns ++ [120 :: c]).length ≤ 18 := by simp; omega
    -- let x
    refine ⟨_, rfl, .inl ⟨rfl, _, SqL.of mi0.w⟩, _, rfl, _, _, rfl, rfl, ax _ (by decide), _, rfl, _, rfl, _, rfl, b, d, ds, _, Dn, Dc, ns, cs, 1, rfl, mi0.s.box, mi0.n, mi0.c, by decide, fun Ha va ma ta ya tva dra => ⟨three_le, fun pa npa => ?_⟩⟩
    have mi1 := (mi0.bs ya).bs ((Bs.refl (mi0.bs ya).s.box).new (o := .tup [.str "let", .str (Str.ofString "x" ++ S c), va]) npa)
    refine ⟨Dw, _, _, rfl, rfl, mi1.w, szl (by simp), ?_⟩
    have mi2 := mi1.put hB (v := .ref pa) (l := .lt false (120 :: c) ta) ⟨pa, va, rfl, by rw [← cat]; exact upd_same, TV.imp (newtup npa) ta va tva⟩
    -- fn f
    refine ⟨_, rfl, .inl ⟨rfl, _, SqL.of mi2.w⟩, _, rfl, _, _, rfl, rfl, ax _ (by decide), one_le, fun tp ntp => ⟨_, rfl, _, rfl, one_le, fun l2 nl2 => ?_⟩⟩
    have m3 := mi2.bs ((Bs.refl mi2.s.box).new (o := .tup [.str "p"]) ntp)
    have m4 := m3.bs ((Bs.refl m3.s.box).new (o := .lst [.str "p"]) nl2)
    refine ⟨Dm, l2, _, _, rfl, rfl, m4.m.at_, upd_same, szle (by rw [List.length_map]; show (ns ++ [120 :: c]).length + 1 ≤ 1000; omega), fun pm npm => ⟨Nat.zero_le _, fun le nle => ?_⟩⟩
    have m5 := m4.bs ((Bs.refl m4.s.box).new (o := .lst (((ns ++ [120 :: c]).map fun l => V.str (S l)) ++ [.str "p"])) npm)
    have m6 := m5.bs ((Bs.refl m5.s.box).new (o := .lst []) nle)
    have okp : ∀ l ∈ ([[112]] : List NM), nmB l = true ∧ l.length ≤ 6 := by decide +kernel
    have okpq : ∀ l ∈ ([[112], [113]] : List NM), nmB l = true ∧ l.length ≤ 6 := by decide +kernel
    refine ⟨b, d, ds, _, pm, le, (ns ++ [120 :: c]) ++ [[112]], [], 2, rfl, m6.s.box, Nam.add (ns := ns ++ [120 :: c]) (ms := [[112]]) (newtupL nle _ _ upd_same) m4.m.ok okp (by simp; omega), Cal.nil upd_same, by decide, fun Hb vb mb tb yb tvb drb => ⟨by show 4 ≤ sizeLine; decide, fun pb npb => ?_⟩⟩
    have m7 := m6.bs yb
    have m8 := m7.bs ((Bs.refl m7.s.box).new (o := .tup [.str "fn", .str (Str.ofString "f" ++ S c), .ref tp, vb]) npb)
    refine ⟨Dw, _, _, rfl, rfl, m8.w, szl (by simp), ?_⟩
    have etp := Bs.tup (((((Bs.refl m3.s.box).new (o := .lst [.str "p"]) nl2).new (o := .lst (((ns ++ [120 :: c]).map fun l => V.str (S l)) ++ [.str "p"])) npm).new (o := .lst []) nle).trans (yb.new (o := .tup [.str "fn", .str (Str.ofString "f" ++ S c), .ref tp, vb]) npb)) m3.s.box tp [.str "p"] upd_same
    have mi3 := m8.put hB (v := .ref pb) (l := .fn (102 :: c) [[112]] tb) ⟨pb, tp, vb, rfl, by rw [← cat]; exact upd_same, etp, TV.imp (newtup npb) tb vb tvb⟩
    -- let y
    refine ⟨_, rfl, .inl ⟨rfl, _, SqL.of mi3.w⟩, _, rfl, _, _, rfl, rfl, ax _ (by decide), _, rfl, _, rfl, _, rfl, _, rfl, _, _, rfl, rfl, ax _ (by decide), two_le, fun t3 nt3 => ⟨one_le, fun l3 nl3 => ?_⟩⟩
    have m9 := mi3.bs ((Bs.refl mi3.s.box).new (o := .tup [.str (Str.ofString "f" ++ S c), .int 1]) nt3)
    have m10 := m9.bs ((Bs.refl m9.s.box).new (o := .lst [.ref t3]) nl3)
    obtain ⟨vc, ec1, ec2⟩ := m10.c.ex
    have vcl : vc.length = cs.length := Paired.length ec2
    have csm := cC5.sm
    refine ⟨Dc, l3, _, _, rfl, rfl, ec1, upd_same, szle (by show vc.length + 1 ≤ 1000; omega), fun pc npc => ?_⟩
    have m11 := m10.bs ((Bs.refl m10.s.box).new (o := .lst (vc ++ [.ref t3])) npc)
    have cal11 : Cal _ pc (cs ++ [(102 :: c, 1)]) := ⟨⟨_, upd_same, pairApp (CL.imp (newtup npc) ec2) (.cons ⟨t3, rfl, by rw [← cat]; exact newtup npc _ _ (newtup nl3 _ _ upd_same)⟩ .nil)⟩, fun x hx => by
      rcases List.mem_append.mp hx with hx | hx
      · exact mo x hx
      · rw [List.mem_singleton.mp hx]; exact ⟨on.2.2.1, by simp; omega, by show (1 : Nat) ≤ 3; decide⟩, by simp; omega⟩
    refine ⟨b, d, ds, _, Dm, pc, ns ++ [120 :: c], cs ++ [(102 :: c, 1)], 2, rfl, m11.s.box, m11.m, cal11, by decide, fun Hc vcc mc tc yc tvc drc => ⟨three_le, fun pcc npcc => ?_⟩⟩
    have m12 := (m11.bs yc).bs ((Bs.refl (m11.bs yc).s.box).new (o := .tup [.str "let", .str (Str.ofString "y" ++ S c), vcc]) npcc)
    refine ⟨Dw, _, _, rfl, rfl, m12.w, szl (by simp), ?_⟩
    have mi4 := m12.put hB (v := .ref pcc) (l := .lt false (121 :: c) tc) ⟨pcc, vcc, rfl, by rw [← cat]; exact upd_same, TV.imp (newtup npcc) tc vcc tvc⟩
    -- keep k
    refine ⟨_, rfl, .inl ⟨rfl, _, SqL.of mi4.w⟩, _, rfl, _, _, rfl, rfl, ax _ (by decide), _, rfl, _, rfl, Nat.zero_le _, fun l4 nl4 => ?_⟩
    have m13 := mi4.bs ((Bs.refl mi4.s.box).new (o := .lst []) nl4)
    refine ⟨b, d, ds, _, Dm, l4, ns ++ [120 :: c], [], 1, rfl, m13.s.box, m13.m, Cal.nil upd_same, by decide, fun Hd vd md td yd tvd drd => ⟨three_le, fun pd npd => ?_⟩⟩
    have m14 := (m13.bs yd).bs ((Bs.refl (m13.bs yd).s.box).new (o := .tup [.str "keep", .str (Str.ofString "k" ++ S c), vd]) npd)
    refine ⟨Dw, _, _, rfl, rfl, m14.w, szl (by simp), ?_⟩
    have mi5 := m14.put hB (v := .ref pd) (l := .lt true (107 :: c) td) ⟨pd, vd, rfl, by rw [← cat]; exact upd_same, TV.imp (newtup npd) td vd tvd⟩
    -- every
    refine ⟨_, rfl, _, rfl, Dl, lw, il, c, code "xyk", rfl, mi5.l, mi5.il_, iok, il4, hc, fun Hev De ne sev nDe hNe le5 => ?_⟩
    have m15 := mi5.bs ((Bs.refl mi5.s.box).same sev)
    -- fn g
    refine ⟨_, rfl, .inl ⟨rfl, _, SqL.of m15.w⟩, _, rfl, _, _, rfl, rfl, ax _ (by decide), two_le, fun tq ntq => ⟨_, rfl, _, rfl, two_le, fun l5 nl5 => ?_⟩⟩
    have m16 := m15.bs ((Bs.refl m15.s.box).new (o := .tup [.str "p", .str "q"]) ntq)
    have m17 := m16.bs ((Bs.refl m16.s.box).new (o := .lst [.str "p", .str "q"]) nl5)
    have eDe := newtupL nl5 (o := .lst [.str "p", .str "q"]) _ _ (newtupL ntq (o := .tup [.str "p", .str "q"]) _ _ hNe.at_)
    refine ⟨De, l5, _, _, rfl, rfl, eDe, upd_same, szle (by rw [List.length_map]; show ne.length + 2 ≤ 1000; omega), fun pe npe => ?_⟩
    have m18 := m17.bs ((Bs.refl m17.s.box).new (o := .lst ((ne.map fun l => V.str (S l)) ++ [.str "p", .str "q"])) npe)
    refine ⟨_, rfl, b, d, ds, _, pe, Dc, ne ++ [[112], [113]], cs, 2, rfl, m18.s.box, Nam.add (ns := ne) (ms := [[112], [113]]) upd_same hNe.ok okpq (by show ne.length + 2 ≤ 500; omega), m18.c, by decide, fun Hg vg mg' tg yg tvg drg => ⟨by show 4 ≤ sizeLine; decide, fun pg npg => ?_⟩⟩
    have m19 := m18.bs yg
    have m20 := m19.bs ((Bs.refl m19.s.box).new (o := .tup [.str "fn", .str (Str.ofString "g" ++ S c), .ref tq, vg]) npg)
    refine ⟨Dw, _, _, rfl, rfl, m20.w, szl (by simp), ?_⟩
    have etq := Bs.tup ((((Bs.refl m16.s.box).new (o := .lst [.str "p", .str "q"]) nl5).new (o := .lst ((ne.map fun l => V.str (S l)) ++ [.str "p", .str "q"])) npe).trans (yg.new (o := .tup [.str "fn", .str (Str.ofString "g" ++ S c), .ref tq, vg]) npg)) m16.s.box tq [.str "p", .str "q"] upd_same
    have mi6 := m20.put hB (v := .ref pg) (l := .fn (103 :: c) [[112], [113]] tg) ⟨pg, tq, vg, rfl, by rw [← cat]; exact upd_same, etq, TV.imp (newtup npg) tg vg tvg⟩
    -- kind
    refine ⟨_, rfl, b, d, ds, _, 9, rfl, mi6.s.box, by decide, fun r9 h90 h91 => ?_⟩
    have m21 := mi6.bs (Bs.refl mi6.s.box).draw
    have dr5 : ∀ t ∈ [ta, tb, tc, td, tg], Dr 3 t := fun t ht => by
      simp only [List.mem_cons, List.not_mem_nil, or_false] at ht
      rcases ht with rfl | rfl | rfl | rfl | rfl
      · exact dra.more (by decide)
      · exact drb.more (by decide)
      · exact drc.more (by decide)
      · exact drd.more (by decide)
      · exact drg.more (by decide)
    refine ⟨_, rfl, _, _, rfl, rfl, _, rfl, ite2 (fun hk1 => ?g1) (fun hk1 => ?g2)⟩
    case' g2 =>
      have mi7 := m21
      have hds : ([] : List Ln) = [] ∨ ∃ t, Dr 3 t ∧ ([] : List Ln) = [Ln.dw false t] := .inl rfl
      have how : ([.lt false (120 :: c) ta, .fn (102 :: c) [[112]] tb, .lt false (121 :: c) tc, .lt true (107 :: c) td, .fn (103 :: c) [[112], [113]] tg] : List Ln) = ownB c ta tb tc td tg ++ [] := rfl
    case' g1 =>
      have hk1 := of_decide_eq_true hk1
      refine ⟨_, rfl, .inl ⟨rfl, _, SqL.of m21.w⟩, _, rfl, _, rfl, _, rfl, _, _, rfl, rfl, ax _ (by decide), one_le, fun l6 nl6 => ?_⟩
      have m22 := m21.bs ((Bs.refl m21.s.box).new (o := .lst [.str (Str.ofString "y" ++ S c)]) nl6)
      refine ⟨Dm, l6, _, _, rfl, rfl, m22.m.at_, upd_same, szle (by rw [List.length_map]; show (ns ++ [120 :: c]).length + 1 ≤ 1000; omega), fun pf npf => ?_⟩
      have m23 := m22.bs ((Bs.refl m22.s.box).new (o := .lst (((ns ++ [120 :: c]).map fun l => V.str (S l)) ++ [.str (Str.ofString "y" ++ S c)])) npf)
      refine ⟨_, rfl, _, rfl, _, rfl, Dl, lw, il, c, rfl, m23.l, m23.il_, iok, il4, hc, fun Hz Dzz cz sz nDzz hCz lz => ⟨two_le, fun l7 nl7 => ?_⟩⟩
      have m24 := (m23.bs ((Bs.refl m23.s.box).same sz)).bs ((Bs.refl (m23.bs ((Bs.refl m23.s.box).same sz)).s.box).new (o := .lst [.ref Dc, .ref Dzz]) nl7)
      obtain ⟨vz, ez1, ez2⟩ := hCz.ex
      have hCz2 : Cal (upd Hz l7 (.lst [.ref Dc, .ref Dzz])) Dzz cz := ⟨⟨vz, newtupL nl7 _ _ ez1, CL.imp (newtup nl7) ez2⟩, hCz.ok, hCz.sm⟩
      obtain ⟨j, rfl, hj⟩ := idx (m := 2) h90 (by omega)
      obtain ⟨Dx9, cx9, ex9, hx9⟩ : ∃ Dx9 cx9, ([V.ref Dc, V.ref Dzz] : List V)[j]? = some (.ref Dx9) ∧ Cal (upd Hz l7 (.lst [.ref Dc, .ref Dzz])) Dx9 cx9 := by
        match j, hj with
        | 0, _ => exact ⟨Dc, cs, rfl, m24.c⟩
        | 1, _ => exact ⟨Dzz, cz, rfl, hCz2⟩
      refine ⟨_, rfl, l7, _, _, .ref Dx9, rfl, rfl, SqL.of upd_same, atI_nat ex9, ?_⟩
      refine ⟨b, d, ds, _, pf, Dx9, (ns ++ [120 :: c]) ++ [121 :: c], cx9, 2, rfl, m24.s.box, Nam.add (ns := ns ++ [120 :: c]) (ms := [121 :: c]) ?_ m22.m.ok (fun l hl => by rw [List.mem_singleton.mp hl]; exact ⟨on.2.1, by simp; omega⟩) (by simp; omega), hx9, by decide, fun Hh vh mh th yh tvh drh => ⟨two_le, fun ph nph => ?_⟩⟩
      · show _ = some (HO.lst (((ns ++ [120 :: c]).map fun l => V.str (S l)) ++ [.str (S (121 :: c))]))
        rw [← cat]
        exact newtupL nl7 _ _ (sz _ _ upd_same)
      have m25 := (m24.bs yh).bs ((Bs.refl (m24.bs yh).s.box).new (o := .tup [.str "do", vh]) nph)
      refine ⟨Dw, _, _, rfl, rfl, m25.w, szl (by simp), ?_⟩
      have mi7 := m25.put hB (v := .ref ph) (l := .dw false th) ⟨ph, vh, rfl, upd_same, TV.imp (newtup nph) th vh tvh⟩
      have hds : ([.dw false th] : List Ln) = [] ∨ ∃ t, Dr 3 t ∧ ([.dw false th] : List Ln) = [Ln.dw false t] := .inr ⟨th, drh.more (by decide), rfl⟩
      have how : ([.lt false (120 :: c) ta, .fn (102 :: c) [[112]] tb, .lt false (121 :: c) tc, .lt true (107 :: c) td, .fn (103 :: c) [[112], [113]] tg, .dw false th] : List Ln) = ownB c ta tb tc td tg ++ [.dw false th] := rfl
    all_goals (
      refine ⟨_, rfl, _, _, rfl, rfl, _, rfl, ite2 (fun hk3 => ?_) (fun hk3 => ?_)⟩
      rotate_left
      have mi8 := mi7
      have hhs : ([] : List Ln) = [] ∨ ∃ t, Dr 3 t ∧ ([] : List Ln) = [Ln.dw true t] := .inl rfl
      have hfull := congrArg (· ++ ([] : List Ln)) how
      rotate_left
      refine ⟨_, rfl, .inl ⟨rfl, _, SqL.of mi7.w⟩, _, rfl, _, _, rfl, rfl, ax _ (by decide), two_le, fun a1 na1 => ⟨two_le, fun a2 na2 => ⟨two_le, fun a3 na3 => ⟨_, rfl, two_le, fun a4 na4 => ⟨three_le, fun a5 na5 => ⟨three_le, fun l8 nl8 => ?_⟩⟩⟩⟩⟩⟩
      have u0 := Bs.refl mi7.s.box
      have u1 := u0.new (o := .tup [.str "string", .str (Str.ofString "r" ++ S c)]) na1
      have u2 := u1.new (o := .tup [.str "string", .str "common"]) na2
      have u3 := u2.new (o := .tup [.str "string", .str "r"]) na3
      have u4 := u3.new (o := .tup [.str "string", .str (S c)]) na4
      have u5 := u4.new (o := .tup [.str "+", .ref a3, .ref a4]) na5
      have u6 := u5.new (o := .lst [.ref a1, .ref a2, .ref a5]) nl8
      refine ⟨_, rfl, b, d, ds, _, 3, rfl, u6.box, by decide, fun r10 h10 h11 => ?_⟩
      have u7 := u6.draw
      obtain ⟨j, rfl, hj⟩ := idx (m := 3) h10 h11
      have k5 := (newtup (o := .lst [.ref a1, .ref a2, .ref a5]) nl8)
      have kd := Bs.tup (Bs.refl u6.box).draw u6.box
      have f5 := kd _ _ (k5 a5 [.str "+", .ref a3, .ref a4] upd_same)
      have f4 := kd _ _ (k5 a4 _ (newtup na5 (o := .tup [.str "+", .ref a3, .ref a4]) a4 [.str "string", .str (S c)] upd_same))
      have f3 := kd _ _ (k5 a3 _ (newtup na5 (o := .tup [.str "+", .ref a3, .ref a4]) _ _ (newtup na4 (o := .tup [.str "string", .str (S c)]) a3 [.str "string", .str "r"] upd_same)))
      have f2 := kd _ _ (k5 a2 _ (newtup na5 (o := .tup [.str "+", .ref a3, .ref a4]) _ _ (newtup na4 (o := .tup [.str "string", .str (S c)]) _ _ (newtup na3 (o := .tup [.str "string", .str "r"]) a2 [.str "string", .str "common"] upd_same))))
      have f1 := kd _ _ (k5 a1 _ (newtup na5 (o := .tup [.str "+", .ref a3, .ref a4]) _ _ (newtup na4 (o := .tup [.str "string", .str (S c)]) _ _ (newtup na3 (o := .tup [.str "string", .str "r"]) _ _ (newtup na2 (o := .tup [.str "string", .str "common"]) a1 [.str "string", .str (Str.ofString "r" ++ S c)] upd_same)))))
      obtain ⟨vi, ti, ei, tvi, dri⟩ := holdPick hc f1 f2 f3 f4 f5 j hj
      have eL8 := (Bs.refl u6.box).draw.bx l8 _ (u5.nb nl8) upd_same
      refine ⟨l8, _, _, vi, rfl, rfl, SqL.of eL8, atI_nat ei, two_le, fun pi npi => ?_⟩
      have m26 := (mi7.bs u7).bs ((Bs.refl (mi7.bs u7).s.box).new (o := .tup [.str "hold", vi]) npi)
      refine ⟨Dw, _, _, rfl, rfl, m26.w, szl (by simp), ?_⟩
      have mi8 := m26.put hB (v := .ref pi) (l := .dw true ti) ⟨pi, vi, rfl, upd_same, TV.imp (newtup npi) ti vi tvi⟩
      have hhs : ([.dw true ti] : List Ln) = [] ∨ ∃ t, Dr 3 t ∧ ([.dw true ti] : List Ln) = [Ln.dw true t] := .inr ⟨ti, dri, rfl⟩
      have hfull := congrArg (· ++ ([.dw true ti] : List Ln)) how
      all_goals (
        have wl8 := Paired.length mi8.ow
        have w8 := wl8.trans rfl
        simp only [List.length_append, List.length_cons, List.length_nil] at w8
        have lwl : lw.length = il.length := Paired.length mi8.il_
        refine ⟨_, rfl, b, d, ds, _, 20, rfl, mi8.s.box, by decide, fun r12 h12 h13 => ⟨rfl, _, rfl, ite2 (fun _ => ?_) (fun _ => ?_)⟩⟩
        · have m30 := mi8.bs (Bs.refl mi8.s.box).draw
          refine ⟨_, rfl, _, rfl, Dw, _, rfl, SqL.of m30.w, fun u1 nu1 => ?_⟩
          rw [cutD2]
          refine ⟨_, rfl, _, rfl, Dw, _, rfl, SqL.of (newtupL nu1 _ _ m30.w), fun u2 nu2 => ?_⟩
          rw [cutT2]
          refine ⟨u1, u2, _, _, rfl, rfl, newtupL nu2 _ _ upd_same, upd_same, szle (Nat.le_trans (rot_len2 _) (by simp <;> omega)), fun u3 nu3 => ?_⟩
          have m31 := m30.rot nu1 nu2 nu3
          refine ⟨_, rfl, _, rfl, Dl, u3, _, _, rfl, rfl, m31.l, upd_same, szle (Nat.le_trans (Nat.add_le_add_left (rot_len _) _) (by simp <;> omega)), fun p np => ⟨p, _, rfl, .inl ⟨SqL.of upd_same, fun q9 nq9 => ?_⟩⟩⟩
          obtain ⟨sF, mF⟩ := m31.done (pairApp (pairDrop m31.ow 2) (pairTake m31.ow 2)) np nq9
          exact q _ (.ref q9) _ _ sF mF ⟨il, _, rfl, ip, hil, ⟨ta, tb, tc, td, tg, _, _, dr5, hds, hhs, .inr rfl⟩⟩
        · have m30 := mi8.bs (Bs.refl mi8.s.box).draw
          refine ⟨_, rfl, _, rfl, Dl, Dw, _, _, rfl, rfl, m30.l, m30.w, szle (by simp <;> omega), fun p np => ⟨p, _, rfl, .inl ⟨SqL.of upd_same, fun q9 nq9 => ?_⟩⟩⟩
          obtain ⟨sF, mF⟩ := m30.done m30.ow np nq9
          exact q _ (.ref q9) _ _ sF mF ⟨il, _, rfl, ip, hil, ⟨ta, tb, tc, td, tg, _, _, dr5, hds, hhs, .inl rfl⟩⟩))
end
end K3

set_option maxRecDepth 100000
set_option maxHeartbeats 16000000
/-! modules in a dict; declaration -/
namespace K3
open PySem hiding Tok code
open PySem.Spec PyProof.Rows GD K1
open L2 hiding rest
open K2 hiding Sp P
abbrev sDecl : Stmt := topS 5
abbrev Mods := List (NM × List Ln)
def KVs (H : Hp) (kvs : List (Key × V)) (ms : Mods) : Prop := Paired (fun (kv : Key × V) (m : NM × List Ln) => kv.1 = .inr (S m.1) ∧ MV H kv.2 m.2) kvs ms
def MD (H : Hp) (dm : Addr) (ms : Mods) : Prop := ∃ kvs, H dm = some (.dK kvs) ∧ KVs H kvs ms
def mget (ms : Mods) (n : NM) : Option (List Ln) := (ms.find? fun m => decide (m.1 = n)).map (·.2)
def linesOf (ms : Mods) (n : NM) : List Ln := (mget ms n).getD []
theorem KVs.imp {H H' : Hp} {kvs : List (Key × V)} {ms : Mods} (k : ∀ q xs, H q = some (.tup xs) → H' q = some (.tup xs)) (h : KVs H kvs ms) : KVs H' kvs ms := pairImp (fun _ _ h => ⟨h.1, h.2.imp k⟩) h
theorem MD.same {H H' : Hp} {dm : Addr} {ms : Mods} (s : Same H H') (h : MD H dm ms) : MD H' dm ms := by
  obtain ⟨kvs, e, k⟩ := h
  exact ⟨kvs, s _ _ e, k.imp (same_tup s)⟩
theorem mget_cons (m : NM × List Ln) (ms : Mods) (n : NM) : mget (m :: ms) n = if m.1 = n then some m.2 else mget ms n := by
  unfold mget
  rw [List.find?_cons]
  by_cases h : m.1 = n
  · rw [decide_eq_true h, if_pos h]; rfl
  · rw [decide_eq_false h, if_neg h]
theorem KVs.val {H : Hp} {kvs : List (Key × V)} {ms : Mods} (h : KVs H kvs ms) (n : NM) : (mget ms n = none ∧ valV kvs (.inr (S n)) = none) ∨ ∃ ls v, mget ms n = some ls ∧ valV kvs (.inr (S n)) = some v ∧ MV H v ls := by
  induction h with
  | nil => exact .inl ⟨rfl, rfl⟩
  | @cons kv m _ _ r _ ih =>
    by_cases e : m.1 = n
    · right
      refine ⟨m.2, kv.2, by rw [mget_cons, if_pos e], valV_pos (by rw [r.1, e]), r.2⟩
    · rw [mget_cons, if_neg e, valV_neg (by rw [r.1]; intro z; injection z with z; exact e (S_inj z))]
      exact ih
/-- a place: a module and a name -/
def PlV (H : Hp) (v : V) (p : NM × NM) : Prop := ∃ q, v = .ref q ∧ H q = some (.tup [.str (S p.1), .str (S p.2)])
theorem PlV.same {H H' : Hp} {v : V} {p : NM × NM} (s : Same H H') (h : PlV H v p) : PlV H' v p := by
  obtain ⟨q, e, h⟩ := h
  exact ⟨q, e, s _ _ h⟩
def optV (H : Hp) {α : Type} (R : V → α → Prop) (v : V) : Option α → Prop
  | none => v = .non
  | some x => R v x
def lname : Ln → Option NM
  | .lt _ x _ => some x
  | .fn f _ _ => some f
  | _ => none
def findOwn (n : NM) (ls : List Ln) : Option Ln := ls.find? fun l => decide (lname l = some n)
def decl (ms : Mods) (m n : NM) : Option Ln := findOwn n (linesOf ms m)
def OWNv : List V := [.str "let", .str "keep", .str "fn"]
def LISTv : List V := [.str "import", .str "export"]
theorem LV.hd {H : Hp} {v : V} : ∀ {l : Ln}, LV H v l → ∃ q xs, v = .ref q ∧ H q = some (.tup (.str (lnW l) :: xs)) ∧ ∀ x, lname l = some x → ∃ ys, xs = .str (S x) :: ys
  | .lst _ _ _, ⟨q, a, us, e, h1, h2, h3⟩ => ⟨q, _, e, h1, fun x h => (by cases h)⟩
  | .lt _ _ t, ⟨q, u, e, h1, h2⟩ => ⟨q, _, e, h1, fun x h => by cases h; exact ⟨_, rfl⟩⟩
  | .fn _ _ t, ⟨q, r, u, e, h1, h2, h3⟩ => ⟨q, _, e, h1, fun x h => by cases h; exact ⟨_, rfl⟩⟩
  | .dw _ t, ⟨q, u, e, h1, h2⟩ => ⟨q, _, e, h1, fun x h => (by cases h)⟩
theorem own_in (l : Ln) : inV (.str (lnW l)) OWNv = (lname l).isSome := by
  cases l with
  | lst w _ _ => cases w with
    | false => exact (by decide +kernel : inV (.str "import") OWNv = false)
    | true => exact (by decide +kernel : inV (.str "export") OWNv = false)
  | lt k _ _ => cases k with
    | false => exact (by decide +kernel : inV (.str "let") OWNv = true)
    | true => exact (by decide +kernel : inV (.str "keep") OWNv = true)
  | fn _ _ _ => exact (by decide +kernel : inV (.str "fn") OWNv = true)
  | dw k _ => cases k with
    | false => exact (by decide +kernel : inV (.str "do") OWNv = false)
    | true => exact (by decide +kernel : inV (.str "hold") OWNv = false)
/-- modules.get(module, ()) -/
theorem MD.get {H : Hp} {dm : Addr} {ms : Mods} (h : MD H dm ms) (n : NM) {p : Addr} (np : H p = none) : ∃ o vs q, DGet (upd H p (.tup [])) dm (kV (.inr (S n))) o ∧ o.getD (.ref p) = .ref q ∧ (upd H p (.tup [])) q = some (.tup vs) ∧ LVs H vs (linesOf ms n) ∧ Same H (upd H p (.tup [])) := by
  obtain ⟨kvs, e, k⟩ := h
  have s := Same.up (o := .tup []) (Same.refl H) np
  rcases k.val n with ⟨h1, h2⟩ | ⟨ls, v, h1, h2, q, vs, rfl, h3, h4⟩
  · exact ⟨_, [], p, DGet.k (k := .inr (S n)) (s _ _ e), by rw [h2]; rfl, upd_same, by rw [linesOf, h1]; exact .nil, s⟩
  · exact ⟨_, vs, q, DGet.k (k := .inr (S n)) (s _ _ e), by rw [h2]; rfl, s _ _ h3, by rw [linesOf, h1]; exact h4, s⟩
theorem findOwn_drop {n : NM} {ls : List Ln} {i : Nat} {l : Ln} (h : ls[i]? = some l) (ne : ¬ lname l = some n) (e : findOwn n ls = findOwn n (ls.drop i)) : findOwn n ls = findOwn n (ls.drop (i + 1)) := by
  obtain ⟨hi, rfl⟩ := List.getElem?_eq_some_iff.mp h
  rw [e, List.drop_eq_getElem_cons hi]
  unfold findOwn
  rw [List.find?_cons, decide_eq_false ne]
theorem findOwn_here {n : NM} {ls : List Ln} {i : Nat} {l : Ln} (h : ls[i]? = some l) (ne : lname l = some n) (e : findOwn n ls = findOwn n (ls.drop i)) : findOwn n ls = some l := by
  obtain ⟨hi, rfl⟩ := List.getElem?_eq_some_iff.mp h
  rw [e, List.drop_eq_getElem_cons hi]
  unfold findOwn
  rw [List.find?_cons, decide_eq_true ne]
section
variable {P : Program} {w : World} {K : PySem.W.Frag} {mg : Str → Option Value} {base : Heap}
def spDecl : L2.Sp := fun vs H Q _ => ∃ (dm : Addr) (u : V) (ms : Mods) (m n : NM), vs = [.ref dm, u] ∧ MD H dm ms ∧ PlV H u (m, n) ∧ ∀ H' v, Same H H' → optV H' (LV H') v (decl ms m n) → Q v H'
theorem scDecl : FnScope ["modules", "binding", "module", "name", "line"] ["modules", "binding"] (defScope sDecl) := ⟨rfl, rfl, rfl, by decide +kernel, rfl, by decide +kernel, by decide +kernel⟩
theorem ok_decl {f aO : Addr} {fd : FuncData} (F : Fun K "declaration" "declaration" sDecl f fd) (gO : mg "OWN" = some (.ref aO)) (kO : ∀ H, SqT K H aO OWNv) : FnOk P w K mg base CX0 1 f fd ["modules", "binding"] spDecl := by
  have sc := scDecl
  refine F.ok sc (fun vs H Q E h => ?_) (fun cdv A outer s H vs Q E hr h => ?_)
  · obtain ⟨dm, u, ms, m, n, rfl, _⟩ := h
    rfl
  · obtain ⟨dm, u, ms, m, n, rfl, hM, ⟨q, rfl, hq⟩, ret⟩ := h
    refine ⟨_, (pss_cons (ps_asg (pv 1) (pg_tup rfl (pgs_cons (pg_name (i := 2) sc.nd rfl (Or.inl rfl)) (pgs_cons (pg_name (i := 3) sc.nd rfl (Or.inl rfl)) pgs_nil))))
      (pss_cons (ps_for PassesOwn.never rfl (pi_tup (pe_dget2 (hu_of hr) (pv 0) (pv 2) (pe_tup pa_nil) ⟨rfl, rfl, rfl, rfl⟩)) (pg_name (i := 4) sc.nd rfl (Or.inl rfl))
      (pss_one (ps_if (PW.pt (pw_and (pt_cmpR op_in_seq (pe_ix ix_tup (pv 4) pe_int (fun _ _ => rfl)) (pe_glob (v := .ref aO) rfl gO rfl) rfl) (pw_and1 (pt_cmpR op_eq (pe_ix ix_tup (pv 4) pe_int (fun _ _ => rfl)) (pv 3) (nomark _)))))
      (pss_one (ps_ret (pv 4)))
      pss_nil)))
      (pss_one (ps_ret pe_non)))), ?_⟩
    refine ⟨_, rfl, q, _, rfl, SqT.of hq, rfl, _, _, rfl, _, _, rfl, rfl, _, rfl, dm, rfl, .inl ⟨_, .inl hM.choose_spec.1⟩, _, rfl, Nat.zero_le _, fun p np => ?_⟩
    obtain ⟨o, vs, q9, g1, g2, g3, g4, s0⟩ := hM.get m np
    refine ⟨o, g1, q9, g2, ⟨_, SqT.of g3⟩, for_tup (K := K) (a := q9) (xs := vs) (fun i σ H' => ∃ y4 : Option V, σ = [some (.ref dm), some (.ref q), some (.str (S m)), some (.str (S n)), y4] ∧ H' = upd H p (.tup []) ∧ decl ms m n = findOwn n ((linesOf ms m).drop i))
      ⟨none, rfl, rfl, rfl⟩ (fun i σ H' _ ⟨_, _, e, _⟩ => by rw [e]; exact SqT.of g3) ?_ ?_⟩
    · rintro i x σ H1 hx ⟨y4, rfl, rfl, e⟩
      obtain ⟨l, el, lv⟩ := pairGetR g4 hx
      have lv' := LV.imp (same_tup s0) lv
      obtain ⟨q5, xs, rfl, h1, h2⟩ := lv'.hd
      refine ⟨_, rfl, q5, _, _, _, rfl, rfl, SqT.of h1, atI_nat (j := 0) rfl, aO, OWNv, rfl, .inr (kO _), rfl, by decide, ?_⟩
      have hin : (if false = true then !inV (.str (lnW l)) OWNv else inV (.str (lnW l)) OWNv) = (lname l).isSome := own_in l
      refine ⟨_, rfl, ite2 (fun hc => ?_) (fun hc => ?_)⟩
      · rw [hin] at hc
        obtain ⟨x, ex⟩ := Option.isSome_iff_exists.mp hc
        obtain ⟨ys, rfl⟩ := h2 x ex
        refine ⟨_, rfl, q5, _, _, _, rfl, rfl, SqT.of h1, atI_nat (j := 1) rfl, _, rfl, rfl, _, rfl, ite2 (fun hk => ?_) (fun hk => ?_)⟩
        · have hk := of_decide_eq_true hk
          injection hk with hk
          have hn : lname l = some n := by rw [ex, S_inj hk]
          exact ⟨_, rfl, ret _ _ s0 (by rw [e, ← e, decl, findOwn_here el hn e]; exact lv')⟩
        · refine ⟨_, rfl, rfl, ?_⟩
          exact findOwn_drop el (fun z => hk (by rw [ex] at z; injection z with z; rw [z]; exact decide_eq_true rfl)) e
      · refine ⟨_, rfl, rfl, ?_⟩
        have hn : ¬ lname l = some n := fun z => hc (by rw [hin, z]; rfl)
        exact findOwn_drop el hn e
    · rintro σ H1 ⟨y4, rfl, rfl, e⟩
      refine ret _ _ s0 ?_
      have : (linesOf ms m).drop vs.length = [] := by rw [Paired.length g4]; exact List.drop_length ..
      rw [e, this]
      rfl
end
end K3

set_option maxRecDepth 100000
set_option maxHeartbeats 16000000
/-! listed -/
namespace K3
open PySem hiding Tok code
open PySem.Spec PyProof.Rows GD K1
open L2 hiding rest
open K2 hiding Sp P
abbrev sListed : Stmt := topS 6
def lW (w : Bool) : Str := if w then "export" else "import"
def isLst (w : Bool) : Ln → Bool
  | .lst v _ _ => v == w
  | _ => false
def listHere (w : Bool) (n : NM) : Ln → Option (NM × NM)
  | .lst v ps m => if v = w then (ps.find? fun p => decide (p.2 = n)).map fun p => (m, p.1) else none
  | _ => none
def findList (w : Bool) (n : NM) : List Ln → Option (NM × NM)
  | [] => none
  | l :: r => (listHere w n l).or (findList w n r)
def lstd (w : Bool) (ms : Mods) (p : NM × NM) : Option (NM × NM) := findList w p.2 (linesOf ms p.1)
theorem lnW_eq (w : Bool) (l : Ln) : (lnW l = lW w) ↔ isLst w l = true := by
  cases l with
  | lst v _ _ =>
    cases v with
    | false => cases w with
      | false => exact (by decide +kernel : ("import" : Str) = ("import" : Str) ↔ (false == false) = true)
      | true => exact (by decide +kernel : ("import" : Str) = ("export" : Str) ↔ (false == true) = true)
    | true => cases w with
      | false => exact (by decide +kernel : ("export" : Str) = ("import" : Str) ↔ (true == false) = true)
      | true => exact (by decide +kernel : ("export" : Str) = ("export" : Str) ↔ (true == true) = true)
  | lt k _ _ =>
    cases k with
    | false => cases w with
      | false => exact (by decide +kernel : ("let" : Str) = ("import" : Str) ↔ false = true)
      | true => exact (by decide +kernel : ("let" : Str) = ("export" : Str) ↔ false = true)
    | true => cases w with
      | false => exact (by decide +kernel : ("keep" : Str) = ("import" : Str) ↔ false = true)
      | true => exact (by decide +kernel : ("keep" : Str) = ("export" : Str) ↔ false = true)
  | fn _ _ _ =>
    cases w with
      | false => exact (by decide +kernel : ("fn" : Str) = ("import" : Str) ↔ false = true)
      | true => exact (by decide +kernel : ("fn" : Str) = ("export" : Str) ↔ false = true)
  | dw k _ =>
    cases k with
    | false => cases w with
      | false => exact (by decide +kernel : ("do" : Str) = ("import" : Str) ↔ false = true)
      | true => exact (by decide +kernel : ("do" : Str) = ("export" : Str) ↔ false = true)
    | true => cases w with
      | false => exact (by decide +kernel : ("hold" : Str) = ("import" : Str) ↔ false = true)
      | true => exact (by decide +kernel : ("hold" : Str) = ("export" : Str) ↔ false = true)
theorem findList_none {w : Bool} {n : NM} {ls : List Ln} {i : Nat} {l : Ln} (h : ls[i]? = some l) (ne : listHere w n l = none) (e : findList w n ls = findList w n (ls.drop i)) : findList w n ls = findList w n (ls.drop (i + 1)) := by
  obtain ⟨hi, rfl⟩ := List.getElem?_eq_some_iff.mp h
  rw [e, List.drop_eq_getElem_cons hi, findList, ne]
  rfl
theorem findList_some {w : Bool} {n : NM} {ls : List Ln} {i : Nat} {l : Ln} {x : NM × NM} (h : ls[i]? = some l) (ne : listHere w n l = some x) (e : findList w n ls = findList w n (ls.drop i)) : findList w n ls = some x := by
  obtain ⟨hi, rfl⟩ := List.getElem?_eq_some_iff.mp h
  rw [e, List.drop_eq_getElem_cons hi, findList, ne]
  rfl
theorem find_drop {α : Type} {f : α → Bool} {ls : List α} {i : Nat} {l : α} (h : ls[i]? = some l) (ne : f l = false) (e : ls.find? f = (ls.drop i).find? f) : ls.find? f = (ls.drop (i + 1)).find? f := by
  obtain ⟨hi, rfl⟩ := List.getElem?_eq_some_iff.mp h
  rw [e, List.drop_eq_getElem_cons hi, List.find?_cons, ne]
theorem find_here {α : Type} {f : α → Bool} {ls : List α} {i : Nat} {l : α} (h : ls[i]? = some l) (ne : f l = true) (e : ls.find? f = (ls.drop i).find? f) : ls.find? f = some l := by
  obtain ⟨hi, rfl⟩ := List.getElem?_eq_some_iff.mp h
  rw [e, List.drop_eq_getElem_cons hi, List.find?_cons, ne]
section
variable {P : Program} {w : World} {K : PySem.W.Frag} {mg : Str → Option Value} {base : Heap}
def spListed : L2.Sp := fun vs H Q _ => ∃ (dm : Addr) (u : V) (ms : Mods) (wd : Bool) (p : NM × NM), vs = [.ref dm, .str (lW wd), u] ∧ MD H dm ms ∧ PlV H u p ∧ ∀ H' v, Same H H' → optV H' (PlV H') v (lstd wd ms p) → Q v H'
theorem scListed : FnScope ["modules", "word", "place", "module", "name", "line", "there", "here"] ["modules", "word", "place"] (defScope sListed) := ⟨rfl, rfl, rfl, by decide +kernel, rfl, by decide +kernel, by decide +kernel⟩
theorem ok_listed {f : Addr} {fd : FuncData} (F : Fun K "listed" "listed" sListed f fd) : FnOk P w K mg base CX0 1 f fd ["modules", "word", "place"] spListed := by
  have sc := scListed
  refine F.ok sc (fun vs H Q E h => ?_) (fun cdv A outer s H vs Q E hr h => ?_)
  · obtain ⟨dm, u, ms, wd, p, rfl, _⟩ := h
    rfl
  · obtain ⟨dm, u, ms, wd, ⟨m, n⟩, rfl, hM, ⟨q, rfl, hq⟩, ret⟩ := h
    refine ⟨_, (pss_cons (ps_asg (pv 2) (pg_tup rfl (pgs_cons (pg_name (i := 3) sc.nd rfl (Or.inl rfl)) (pgs_cons (pg_name (i := 4) sc.nd rfl (Or.inl rfl)) pgs_nil))))
      (pss_cons (ps_for PassesOwn.never rfl (pi_tup (pe_dget2 (hu_of hr) (pv 0) (pv 3) (pe_tup pa_nil) ⟨rfl, rfl, rfl, rfl⟩)) (pg_name (i := 5) sc.nd rfl (Or.inl rfl))
      (pss_one (ps_if (pt_cmpR op_eq (pe_ix ix_tup (pv 5) pe_int (fun _ _ => rfl)) (pv 1) (nomark _))
      (pss_one (ps_for PassesOwn.never rfl (pi_tup (pe_ix ix_tup (pv 5) pe_int (fun _ _ => rfl))) (pg_tup rfl (pgs_cons (pg_name (i := 6) sc.nd rfl (Or.inl rfl)) (pgs_cons (pg_name (i := 7) sc.nd rfl (Or.inl rfl)) pgs_nil)))
      (pss_one (ps_if (pt_cmpR op_eq (pv 7) (pv 4) (nomark _))
      (pss_one (ps_ret (pe_tup (pa_cons (pe_ix ix_tup (pv 5) pe_int (fun _ _ => rfl)) (pa_cons (pv 6) pa_nil)))))
      pss_nil))))
      pss_nil)))
      (pss_one (ps_ret pe_non)))), ?_⟩
    refine ⟨_, rfl, q, _, rfl, SqT.of hq, rfl, _, _, rfl, _, _, rfl, rfl, _, rfl, dm, rfl, .inl ⟨_, .inl hM.choose_spec.1⟩, _, rfl, Nat.zero_le _, fun p np => ?_⟩
    obtain ⟨o, vs, q9, g1, g2, g3, g4, s0⟩ := hM.get m np
    refine ⟨o, g1, q9, g2, ⟨_, SqT.of g3⟩, for_tup (K := K) (a := q9) (xs := vs) (fun i σ H' => ∃ y5 y6 y7 : Option V, σ = [some (.ref dm), some (.str (lW wd)), some (.ref q), some (.str (S m)), some (.str (S n)), y5, y6, y7] ∧ H' = upd H p (.tup []) ∧ lstd wd ms (m, n) = findList wd n ((linesOf ms m).drop i))
      ⟨none, none, none, rfl, rfl, rfl⟩ (fun i σ H' _ ⟨_, _, _, _, e, _⟩ => by rw [e]; exact SqT.of g3) ?_ ?_⟩
    · rintro i x σ H1 hx ⟨y5, y6, y7, rfl, rfl, e⟩
      obtain ⟨l, el, lv⟩ := pairGetR g4 hx
      have lv' := LV.imp (same_tup s0) lv
      obtain ⟨q5, xs, rfl, h1, h2⟩ := lv'.hd
      refine ⟨_, rfl, q5, _, _, _, rfl, rfl, SqT.of h1, atI_nat (j := 0) rfl, _, rfl, rfl, _, rfl, ite2 (fun hc => ?_) (fun hc => ?_)⟩
      · have hc := of_decide_eq_true hc
        injection hc with hc
        have hl := (lnW_eq wd l).mp hc
        match l, hl with
        | .lst v ps t, hl =>
          have hv : v = wd := by simpa [isLst] using hl
          obtain ⟨q6, a6, us, eq6, h3, h4, h5⟩ := lv'
          obtain rfl : q5 = q6 := by injection eq6
          rw [h1] at h3
          injection h3 with h3
          injection h3 with h3
          rw [h3] at h1
          refine ⟨_, rfl, q5, _, _, _, rfl, rfl, SqT.of h1, atI_nat (j := 1) rfl, a6, rfl, ⟨_, SqT.of h4⟩, for_tup (K := K) (a := a6) (xs := us) (fun j σ H' => ∃ y6 y7 : Option V, σ = [some (.ref dm), some (.str (lW wd)), some (.ref q), some (.str (S m)), some (.str (S n)), some (.ref q5), y6, y7] ∧ H' = upd H p (.tup []) ∧ ps.find? (fun p => decide (p.2 = n)) = (ps.drop j).find? fun p => decide (p.2 = n))
            ⟨_, _, rfl, rfl, rfl⟩ (fun i σ H' _ ⟨_, _, _, e, _⟩ => by rw [e]; exact SqT.of h4) ?_ ?_⟩
          · rintro j x σ H1 hx ⟨y6, y7, rfl, rfl, e6⟩
            obtain ⟨pp, epp, r9, rfl, hr9⟩ := pairGetR h5 hx
            refine ⟨r9, _, rfl, SqT.of hr9, rfl, _, _, rfl, _, _, rfl, rfl, ?_⟩
            refine ⟨_, rfl, _, rfl, rfl, _, rfl, ite2 (fun hk => ?_) (fun hk => ?_)⟩
            · have hk := of_decide_eq_true hk
              injection hk with hk
              have hf := find_here epp (decide_eq_true (S_inj hk)) e6
              refine ⟨_, rfl, q5, _, _, _, rfl, rfl, SqT.of h1, atI_nat (j := 2) rfl, _, rfl, two_le, fun p9 np9 => ret _ _ (Same.up s0 np9) ?_⟩
              have hR : lstd wd ms (m, n) = some (t, pp.1) := by
                rw [lstd]
                exact findList_some el (by rw [listHere, if_pos hv, hf]; rfl) e
              rw [hR]
              exact ⟨p9, rfl, upd_same⟩
            · exact ⟨_, _, rfl, rfl, find_drop epp (decide_eq_false fun z => hk (decide_eq_true (by rw [z]))) e6⟩
          · rintro σ H1 ⟨y6, y7, rfl, rfl, e6⟩
            refine ⟨_, _, _, rfl, rfl, findList_none el ?_ e⟩
            have : ps.drop us.length = [] := by rw [Paired.length h5]; exact List.drop_length ..
            rw [this] at e6
            rw [listHere, e6]
            split <;> rfl
      · refine ⟨_, _, _, rfl, rfl, findList_none el ?_ e⟩
        match l with
        | .lst v ps t =>
          have : ¬ v = wd := fun z => hc (decide_eq_true (congrArg V.str ((lnW_eq wd (.lst v ps t)).mpr (by simp [isLst, z]))))
          rw [listHere, if_neg this]
        | .lt _ _ _ => rfl
        | .fn _ _ _ => rfl
        | .dw _ _ => rfl
    · rintro σ H1 ⟨y5, y6, y7, rfl, rfl, e⟩
      refine ret _ _ s0 ?_
      have : (linesOf ms m).drop vs.length = [] := by rw [Paired.length g4]; exact List.drop_length ..
      rw [e, this]
      rfl
end
end K3

set_option maxRecDepth 100000
set_option maxHeartbeats 16000000
/-! follow -/
namespace K3
open PySem hiding Tok code
open PySem.Spec PyProof.Rows GD K1
open L2 hiding rest
open K2 hiding Sp P
abbrev sFollow : Stmt := topS 7
abbrev Pl := NM × NM
/-- an own place -/
def isOwn (ms : Mods) (p : Pl) : Bool := (decl ms p.1 p.2).isSome
/-- k turns of following exports -/
def turns (ms : Mods) : Nat → Pl → Option Pl
  | 0, _ => none
  | k + 1, p => if isOwn ms p = true then some p else match lstd true ms p with
    | none => none
    | some q => turns ms k q
def tgtL : Ln → List Pl
  | .lst true ps t => ps.map fun p => (t, p.1)
  | _ => []
/-- where exports lead -/
def tgt (ms : Mods) : List Pl := ms.flatMap fun m => m.2.flatMap tgtL
theorem mget_mem {ms : Mods} {n : NM} {ls : List Ln} (h : mget ms n = some ls) : (n, ls) ∈ ms := by
  unfold mget at h
  rw [Option.map_eq_some_iff] at h
  obtain ⟨m, h1, rfl⟩ := h
  have h2 := List.find?_some h1
  have := List.mem_of_find?_eq_some h1
  rw [← of_decide_eq_true h2]
  exact this
theorem findList_tgt {n : NM} : ∀ {ls : List Ln} {q : Pl}, findList true n ls = some q → ∃ l ∈ ls, q ∈ tgtL l
  | [], q, h => by cases h
  | l :: r, q, h => by
    rw [findList] at h
    cases e : listHere true n l with
    | none =>
      rw [e] at h
      obtain ⟨l', h1, h2⟩ := findList_tgt (ls := r) h
      exact ⟨l', List.mem_cons_of_mem _ h1, h2⟩
    | some x =>
      rw [e] at h
      cases h
      refine ⟨l, List.mem_cons_self .., ?_⟩
      cases l with
      | lst v ps m =>
        rw [listHere] at e
        split at e
        · rename_i hv
          subst hv
          rw [Option.map_eq_some_iff] at e
          obtain ⟨p, h1, h2⟩ := e
          exact List.mem_map.mpr ⟨p, List.mem_of_find?_eq_some h1, h2⟩
        · cases e
      | lt _ _ _ => cases e
      | fn _ _ _ => cases e
      | dw _ _ => cases e
theorem lstd_tgt {ms : Mods} {p q : Pl} (h : lstd true ms p = some q) : q ∈ tgt ms := by
  unfold lstd linesOf at h
  cases e : mget ms p.1 with
  | none => rw [e] at h; cases h
  | some ls =>
    rw [e] at h
    obtain ⟨l, h1, h2⟩ := findList_tgt h
    exact List.mem_flatMap.mpr ⟨_, mget_mem e, List.mem_flatMap.mpr ⟨l, h1, h2⟩⟩
/-- a closed row of places that are not own leads nowhere -/
theorem turns_closed {ms : Mods} {pl : List Pl} (h1 : ∀ p ∈ pl, isOwn ms p = false) (h2 : ∀ p ∈ pl, ∀ q, lstd true ms p = some q → q ∈ pl) : ∀ k, ∀ p ∈ pl, turns ms k p = none
  | 0, _, _ => rfl
  | k + 1, p, hp => by
    rw [turns, h1 p hp, if_neg (by decide)]
    cases e : lstd true ms p with
    | none => rfl
    | some q => exact turns_closed h1 h2 k q (h2 p hp q e)
theorem nodup_le {α : Type} [DecidableEq α] : ∀ {l m : List α}, l.Nodup → (∀ x ∈ l, x ∈ m) → l.length ≤ m.length
  | [], _, _, _ => Nat.zero_le _
  | x :: l, m, h, s => by
    rw [List.nodup_cons] at h
    have hx : x ∈ m := s x (List.mem_cons_self ..)
    have : l.length ≤ (m.erase x).length := nodup_le h.2 fun y hy => by
      have hn : y ≠ x := fun e => h.1 (e ▸ hy)
      exact (List.mem_erase_of_ne hn).mpr (s y (List.mem_cons_of_mem _ hy))
    rw [List.length_erase_of_mem hx] at this
    have := List.length_pos_of_mem hx
    rw [List.length_cons]
    omega
def plD (p : Pl) : PyData := .tuple [.str (S p.1), .str (S p.2)]
theorem plD_eqv (p q : Pl) : PyData.eqv (plD p) (plD q) = decide (p = q) := by
  have h : PyData.eqv (plD p) (plD q) = ((S p.1 == S q.1) && ((S p.2 == S q.2) && true)) := by
    unfold plD
    simp only [PyData.eqv, PyData.eqvAll]
  rw [h, Bool.and_true]
  by_cases e : p = q
  · rw [decide_eq_true e, e]
    rw [beq_self_eq_true, beq_self_eq_true]
    rfl
  · rw [decide_eq_false e]
    by_cases e1 : S p.1 = S q.1
    · have e2 : ¬ S p.2 = S q.2 := fun z => e (by
        cases p; cases q
        have a1 := S_inj e1
        have a2 := S_inj z
        simp only at a1 a2
        rw [a1, a2])
      rw [beq_eq_false_iff_ne.mpr e2, Bool.and_false]
    · rw [beq_eq_false_iff_ne.mpr e1, Bool.false_and]
theorem plD_any (p : Pl) : ∀ pl : List Pl, ((pl.map plD).any fun z => PyData.eqv z (plD p)) = decide (p ∈ pl)
  | [] => rfl
  | q :: pl => by
    rw [List.map_cons, List.any_cons, plD_any p pl, plD_eqv]
    by_cases h : q = p
    · subst h; simp
    · rw [decide_eq_false h, Bool.false_or]
      exact decide_eq_decide.mpr (by simp [show ¬ p = q from fun z => h z.symm])
/-- names that can be shown -/
def smN (x : NM) : Prop := x.length ≤ 6 ∧ ∀ c ∈ x, c < 1000
def smP (p : Pl) : Prop := smN p.1 ∧ smN p.2
theorem plFit {p : Pl} (h : smP p) : Fit (plD p) 1 132 :=
  (Fit.tup (k := 0) (B := 62) (mem2 (Fit.strS (n := 6) h.1.1 h.1.2) (Fit.strS (n := 6) h.2.1 h.2.2))).more (by omega) (by simp only [List.length_cons, List.length_nil]; omega)
theorem PlV.dp {K : PySem.W.Frag} {H : Hp} {v : V} {p : Pl} (h : PlV H v p) : Dp K H v (plD p) := by
  obtain ⟨q, rfl, h⟩ := h
  exact .tup (SqT.of h) (.cons (.str _) (.cons (.str _) .nil))
theorem PlVs.dp {K : PySem.W.Frag} {H : Hp} {vs : List V} {ps : List Pl} (h : Paired (fun v p => PlV H v p) vs ps) : DpAll K H vs (ps.map plD) := by
  induction h with
  | nil => exact .nil
  | cons r _ ih => exact .cons r.dp ih
/-- what stands in the loop of follow -/
structure FolI (ms : Mods) (p0 : Pl) (pl : List Pl) (o : Option Pl) : Prop where
  nd : pl.Nodup
  sub : ∀ p ∈ pl, p ∈ p0 :: tgt ms
  own : ∀ p ∈ pl, isOwn ms p = false
  cl : ∀ p ∈ pl, ∀ q, lstd true ms p = some q → q ∈ pl ∨ o = some q
  at_ : ∀ q, o = some q → q ∈ p0 :: tgt ms
  eq : ∀ k, turns ms (pl.length + k) p0 = o.bind (turns ms k)
theorem FolI.init (ms : Mods) (p0 : Pl) : FolI ms p0 [] (some p0) :=
  ⟨List.nodup_nil, fun p h => (by cases h), fun p h => (by cases h), fun p h => (by cases h), fun q h => by cases h; exact List.mem_cons_self .., fun k => by rw [List.length_nil, Nat.zero_add]; rfl⟩
theorem FolI.len {ms : Mods} {p0 : Pl} {pl : List Pl} {o : Option Pl} (h : FolI ms p0 pl o) : pl.length ≤ (tgt ms).length + 1 := nodup_le h.nd h.sub
theorem FolI.step {ms : Mods} {p0 p : Pl} {pl : List Pl} (h : FolI ms p0 pl (some p)) (hn : p ∉ pl) (ho : isOwn ms p = false) : FolI ms p0 (pl ++ [p]) (lstd true ms p) where
  nd := by
    rw [List.nodup_append]
    refine ⟨h.nd, by simp, fun a ha b hb => ?_⟩
    rw [List.mem_singleton.mp hb]
    intro e
    exact hn (e ▸ ha)
  sub := fun q hq => (List.mem_append.mp hq).elim (h.sub q) fun hq => by rw [List.mem_singleton.mp hq]; exact h.at_ p rfl
  own := fun q hq => (List.mem_append.mp hq).elim (h.own q) fun hq => by rw [List.mem_singleton.mp hq]; exact ho
  cl := fun q hq r hr => by
    rcases List.mem_append.mp hq with hq | hq
    · rcases h.cl q hq r hr with h1 | h1
      · exact .inl (List.mem_append.mpr (.inl h1))
      · cases h1
        exact .inl (List.mem_append.mpr (.inr (List.mem_singleton.mpr rfl)))
    · rw [List.mem_singleton.mp hq] at hr
      exact .inr hr
  at_ := fun q hq => List.mem_cons_of_mem _ (lstd_tgt hq)
  eq := fun k => by
    have := h.eq (k + 1)
    rw [List.length_append, List.length_singleton, Nat.add_assoc, Nat.add_comm 1 k, this]
    show turns ms (k + 1) p = _
    rw [turns, ho, if_neg (by decide)]
    cases lstd true ms p <;> rfl
theorem FolI.out {ms : Mods} {p0 : Pl} {pl : List Pl} {o : Option Pl} (h : FolI ms p0 pl o) (hz : (tgt ms).length ≤ 90) (ho : ∀ p, o = some p → p ∈ pl) : turns ms 100 p0 = none := by
  have hl := h.len
  have := h.eq (100 - pl.length)
  rw [Nat.add_sub_cancel' (by omega)] at this
  rw [this]
  cases o with
  | none => rfl
  | some p =>
    refine turns_closed h.own (fun a ha b hb => ?_) _ p (ho p rfl)
    rcases h.cl a ha b hb with h1 | h1
    · exact h1
    · cases h1
      exact ho _ rfl
theorem FolI.found {ms : Mods} {p0 p : Pl} {pl : List Pl} (h : FolI ms p0 pl (some p)) (hz : (tgt ms).length ≤ 90) (ho : isOwn ms p = true) : turns ms 100 p0 = some p := by
  have hl := h.len
  have := h.eq (100 - pl.length)
  rw [Nat.add_sub_cancel' (by omega)] at this
  rw [this]
  obtain ⟨k, hk⟩ : ∃ k, 100 - pl.length = k + 1 := ⟨99 - pl.length, by omega⟩
  show turns ms (100 - pl.length) p = _
  rw [hk, turns, if_pos ho]
theorem Same.wr {H H' : Hp} {D : Addr} {o : HO} (s : Same H H') (n : H D = none) : Same H (upd H' D o) := fun b u e => by rw [upd_ne (ne_of_none e n)]; exact s b u e
theorem optP_non {H : Hp} {v : V} {o : Option Pl} (h : optV H (PlV H) v o) : decide (v = .non) = o.isNone := by
  cases o with
  | none => cases h; rfl
  | some p => obtain ⟨q, rfl, _⟩ := h; rfl
theorem optL_non {H : Hp} {v : V} {o : Option Ln} (h : optV H (LV H) v o) : decide (v = .non) = o.isNone := by
  cases o with
  | none => cases h; rfl
  | some p => obtain ⟨q, _, rfl, _⟩ := LV.hd h; rfl
theorem optP_imp {H H' : Hp} (k : ∀ q xs, H q = some (.tup xs) → H' q = some (.tup xs)) {v : V} {o : Option Pl} (h : optV H (PlV H) v o) : optV H' (PlV H') v o := by
  cases o with
  | none => exact h
  | some p => obtain ⟨q, e, h⟩ := h; exact ⟨q, e, k _ _ h⟩
theorem hu65 {k : Nat} {A : Around} (r : Room k A) : A.units + 65 < cLine := by have := r.un; omega
abbrev PlVs (H : Hp) (vs : List V) (ps : List Pl) : Prop := Paired (fun v p => PlV H v p) vs ps
theorem PlVs.imp {H H' : Hp} (k : ∀ q xs, H q = some (.tup xs) → H' q = some (.tup xs)) {vs : List V} {ps : List Pl} (h : PlVs H vs ps) : PlVs H' vs ps := pairImp (fun _ _ ⟨q, e, h⟩ => ⟨q, e, k _ _ h⟩) h
section
variable {P : Program} {w : World} {K : PySem.W.Frag} {mg : Str → Option Value} {base : Heap}
def spFol : L2.Sp := fun vs H Q _ => ∃ (dm : Addr) (ms : Mods) (m n : NM), vs = [.ref dm, .str (S m), .str (S n)] ∧ MD H dm ms ∧ (tgt ms).length ≤ 90 ∧ smP (m, n) ∧ (∀ p ∈ tgt ms, smP p) ∧
  ∀ H' v, Same H H' → optV H' (PlV H') v (turns ms 100 (m, n)) → Q v H'
theorem scFollow : FnScope ["modules", "module", "name", "passed", "place"] ["modules", "module", "name"] (defScope sFollow) := ⟨rfl, rfl, rfl, by decide +kernel, rfl, by decide +kernel, by decide +kernel⟩
theorem ok_follow {f f1 f2 : Addr} {fd fd1 fd2 : FuncData} (F : Fun K "follow" "follow" sFollow f fd) (FD : FO P w K mg base CX0 1 "declaration" ["modules", "binding"] spDecl f1 fd1)
    (FL : FO P w K mg base CX0 1 "listed" ["modules", "word", "place"] spListed f2 fd2) : FnOk P w K mg base CX0 2 f fd ["modules", "module", "name"] spFol := by
  have sc := scFollow
  refine F.ok sc (fun vs H Q E h => ?_) (fun cdv A outer s H vs Q E hr h => ?_)
  · obtain ⟨dm, ms, m, n, rfl, _⟩ := h
    rfl
  · obtain ⟨dm, ms, m, n, rfl, hM, hz, sm0, smt, ret⟩ := h
    have hr1 : Room 1 _ := hr
    have h65 := hu65 hr
    refine ⟨_, (pss_cons (ps_set (i := 3) sc.nd rfl (Or.inl rfl) (pe_lst pa_nil))
      (pss_cons (ps_set (i := 4) sc.nd rfl (Or.inl rfl) (pe_tup (pa_cons (pv 1) (pa_cons (pv 2) pa_nil))))
      (pss_cons (ps_while PassesOwn.never (PW.pt (pw_and (pt_cmpR op_notN (pv 4) pe_non (nomark _)) (pw_and1 (pt_cmpR (show OpR _ _ (rNotInD K) from op_notInD h65) (pv 4) (pv 3) rfl))))
      (pss_cons (ps_if (pt_cmpR op_notN (pe_call FD.ok hr1 (by rfl) FD.m FD.kp FD.b .nil pass0 (pa_cons (pv 0) (pa_cons (pv 4) pa_nil))) pe_non (nomark _))
      (pss_one (ps_ret (pv 4)))
      pss_nil)
      (pss_cons (ps_expr (pe_bm PySem.F.plainAttrs_list PySem.F.slot_list_append PySem.F.type_list_append mt_append (pv 3) (pa_cons (pv 4) pa_nil)))
      (pss_one (ps_set (i := 4) sc.nd rfl (Or.inl rfl) (pe_call FL.ok hr1 (by rfl) FL.m FL.kp FL.b .nil pass0 (pa_cons (pv 0) (pa_cons pe_str (pa_cons (pv 4) pa_nil)))))))))
      (pss_one (ps_ret pe_non))))), ?_⟩
    refine ⟨Nat.zero_le _, fun D nD => ⟨_, rfl, _, rfl, two_le, fun p0 np0 => ?_⟩⟩
    have s0 : Same H (upd (upd H D (.lst [])) p0 (.tup [.str (S m), .str (S n)])) := Same.up (Same.up (Same.refl H) nD) np0
    refine ⟨fun μ σ H' => ∃ (y : V) (pl : List Pl) (vs : List V) (o : Option Pl), σ = [some (.ref dm), some (.str (S m)), some (.str (S n)), some (.ref D), some y] ∧ Same H H' ∧ H' D = some (.lst vs) ∧ PlVs H' vs pl ∧ optV H' (PlV H') y o ∧ FolI ms (m, n) pl o ∧ μ = 100 - pl.length,
      ⟨_, .ref p0, [], [], some (m, n), rfl, s0, newtupL np0 _ _ upd_same, .nil, ⟨p0, rfl, upd_same⟩, FolI.init ms (m, n), rfl⟩, ?_⟩
    rintro μ σ H1 ⟨y, pl, vs, o, rfl, s1, eD, pv_, hy, hF, rfl⟩
    refine ⟨_, rfl, rfl, ?_⟩
    rw [optP_non hy]
    cases o with
    | none => exact ⟨_, rfl, iteF (iteF (ret _ _ s1 (by rw [hF.out hz (fun p e => (by cases e))]; rfl)))⟩
    | some p =>
      have smp : ∀ x ∈ pl, smP x := fun x hx => (List.mem_cons.mp (hF.sub x hx)).elim (fun e => e ▸ sm0) (smt x)
      have smy : smP p := (List.mem_cons.mp (hF.at_ p rfl)).elim (fun e => e ▸ sm0) (smt p)
      have hy' : PlV H1 y p := hy
      have hlen := hF.len
      refine ⟨_, rfl, iteT ⟨_, rfl, _, rfl, plD p, pl.map plD, hy'.dp, .lst (SqL.of eD) (PlVs.dp pv_), (plFit smy).shaped (by decide), (Fit.list (k := 1) (B := 132) fun d hd => by
        obtain ⟨x, hx, rfl⟩ := List.mem_map.mp hd
        exact plFit (smp x hx)).shaped (by decide), ?_⟩⟩
      rw [plD_any]
      refine ⟨_, rfl, ite2 (fun hin => ?_) (fun hin => ?_)⟩
      · have hin : p ∉ pl := by simpa using hin
        refine ⟨fun σ' H' => ∃ (y : V) (pl' : List Pl) (vs : List V) (o : Option Pl), σ' = [some (.ref dm), some (.str (S m)), some (.str (S n)), some (.ref D), some y] ∧ Same H H' ∧ H' D = some (.lst vs) ∧ PlVs H' vs pl' ∧ optV H' (PlV H') y o ∧ FolI ms (m, n) pl' o ∧ pl'.length = pl.length + 1, fun σ' H' ⟨y, pl', vs, o, h1, h2, h3, h4, h5, h6, h7⟩ => ⟨100 - pl'.length, by rw [h7]; omega, y, pl', vs, o, h1, h2, h3, h4, h5, h6, rfl⟩, ?_⟩
        refine ⟨_, rfl, _, rfl, dm, y, ms, p.1, p.2, rfl, hM.same s1, hy', fun H2 v s2 hv => ⟨rfl, ?_⟩⟩
        rw [optL_non hv]
        have sA : Same H H2 := fun b u e => s2 _ _ (s1 b u e)
        refine ⟨_, rfl, ite2 (fun hd => ?_) (fun hd => ?_)⟩
        · refine ⟨_, rfl, ret _ _ sA ?_⟩
          rw [hF.found hz (by
            unfold isOwn
            cases h : decl ms p.1 p.2 with
            | none => rw [h] at hd; cases hd
            | some l => rfl)]
          exact optP_imp (same_tup s2) (o := some p) hy'
        · have hown : isOwn ms p = false := by
            unfold isOwn
            cases h : decl ms p.1 p.2 with
            | none => rfl
            | some l => rw [h] at hd; exact absurd rfl hd
          have eD2 := s2 _ _ eD
          have vl : vs.length = pl.length := Paired.length pv_
          refine ⟨_, rfl, .inl ⟨rfl, _, SqL.of eD2⟩, _, rfl, D, _, _, rfl, rfl, eD2, szl (by omega), ?_⟩
          have sB : Same H (upd H2 D (.lst (vs ++ [y]))) := Same.wr sA nD
          have kt : ∀ q xs, H2 q = some (.tup xs) → upd H2 D (.lst (vs ++ [y])) q = some (.tup xs) := tup_lst eD2
          have hy2 : PlV (upd H2 D (.lst (vs ++ [y]))) y p := optP_imp (o := some p) kt (optP_imp (same_tup s2) (o := some p) hy')
          refine ⟨_, rfl, _, rfl, dm, y, ms, true, p, rfl, hM.same sB, hy2, fun H3 v3 s3 hv3 => ?_⟩
          refine ⟨v3, pl ++ [p], vs ++ [y], lstd true ms p, rfl, fun b u e => s3 _ _ (sB b u e), s3 _ _ upd_same, ?_, hv3, hF.step hin hown, by rw [List.length_append]; rfl⟩
          exact PlVs.imp (same_tup s3) (pairSnoc (PlVs.imp kt (PlVs.imp (same_tup s2) pv_)) hy2)
      · have hin : p ∈ pl := by simpa using hin
        exact ret _ _ s1 (by rw [hF.out hz (fun q e => by cases e; exact hin)]; rfl)
end
end K3

set_option maxRecDepth 100000
set_option maxHeartbeats 16000000
/-! available; what is declared -/
namespace K3
open PySem hiding Tok code
open PySem.Spec PyProof.Rows GD K1
open L2 hiding rest
open K2 hiding Sp P
abbrev sAvail : Stmt := topS 8
abbrev sLDecl : Stmt := topS 30
def avail (ms : Mods) (p : Pl) : Option Pl := if isOwn ms p = true then some p else (lstd false ms p).bind (turns ms 100)
theorem isOwn_decl {ms : Mods} {m n : NM} : isOwn ms (m, n) = (decl ms m n).isSome := rfl
section
variable {P : Program} {w : World} {K : PySem.W.Frag} {mg : Str → Option Value} {base : Heap}
def spAvail : L2.Sp := fun vs H Q _ => ∃ (dm : Addr) (ms : Mods) (m n : NM), vs = [.ref dm, .str (S m), .str (S n)] ∧ MD H dm ms ∧ (tgt ms).length ≤ 90 ∧ (∀ q, lstd false ms (m, n) = some q → smP q) ∧ (∀ p ∈ tgt ms, smP p) ∧
  ∀ H' v, Same H H' → optV H' (PlV H') v (avail ms (m, n)) → Q v H'
theorem scAvail : FnScope ["modules", "module", "name", "place"] ["modules", "module", "name"] (defScope sAvail) := ⟨rfl, rfl, rfl, by decide +kernel, rfl, by decide +kernel, by decide +kernel⟩
theorem ok_avail {f f1 f2 f3 : Addr} {fd fd1 fd2 fd3 : FuncData} (F : Fun K "available" "available" sAvail f fd) (FD : FO P w K mg base CX0 1 "declaration" ["modules", "binding"] spDecl f1 fd1)
    (FL : FO P w K mg base CX0 1 "listed" ["modules", "word", "place"] spListed f2 fd2) (FF : FO P w K mg base CX0 2 "follow" ["modules", "module", "name"] spFol f3 fd3) : FnOk P w K mg base CX0 3 f fd ["modules", "module", "name"] spAvail := by
  have sc := scAvail
  refine F.ok sc (fun vs H Q E h => ?_) (fun cdv A outer s H vs Q E hr h => ?_)
  · obtain ⟨dm, ms, m, n, rfl, _⟩ := h
    rfl
  · obtain ⟨dm, ms, m, n, rfl, hM, hz, sm0, smt, ret⟩ := h
    have hr1 : Room 1 _ := Room.mono hr (by decide)
    refine ⟨_, (pss_cons (ps_if (pt_cmpR op_notN (pe_call FD.ok hr1 (by rfl) FD.m FD.kp FD.b .nil pass0 (pa_cons (pv 0) (pa_cons (pe_tup (pa_cons (pv 1) (pa_cons (pv 2) pa_nil))) pa_nil))) pe_non (nomark _))
      (pss_one (ps_ret (pe_tup (pa_cons (pv 1) (pa_cons (pv 2) pa_nil)))))
      pss_nil)
      (pss_cons (ps_set (i := 3) sc.nd rfl (Or.inl rfl) (pe_call FL.ok hr1 (by rfl) FL.m FL.kp FL.b .nil pass0 (pa_cons (pv 0) (pa_cons pe_str (pa_cons (pe_tup (pa_cons (pv 1) (pa_cons (pv 2) pa_nil))) pa_nil)))))
      (pss_one (ps_ret (pe_ifExp (pt_cmpR op_isN (pv 3) pe_non (nomark _)) pe_non (pe_call FF.ok hr (by rfl) FF.m FF.kp FF.b .nil pass0 (pa_cons (pv 0) (pa_cons (pe_ix ix_tup (pv 3) pe_int (fun _ _ => rfl)) (pa_cons (pe_ix ix_tup (pv 3) pe_int (fun _ _ => rfl)) pa_nil))))))))), ?_⟩
    refine ⟨_, rfl, _, rfl, _, rfl, two_le, fun p np => ?_⟩
    have s0 : Same H (upd H p (.tup [.str (S m), .str (S n)])) := Same.up (Same.refl H) np
    refine ⟨dm, .ref p, ms, m, n, rfl, hM.same s0, ⟨p, rfl, upd_same⟩, fun H2 v s2 hv => ⟨rfl, ?_⟩⟩
    rw [optL_non hv]
    have s02 : Same H H2 := fun b u e => s2 _ _ (s0 b u e)
    refine ⟨_, rfl, ite2 (fun hd => ?_) (fun hd => ?_)⟩
    · have ho : isOwn ms (m, n) = true := by
        rw [isOwn_decl]
        cases h : decl ms m n with
        | none => rw [h] at hd; cases hd
        | some l => rfl
      refine ⟨_, rfl, _, rfl, two_le, fun p9 np9 => ret _ _ (Same.up s02 np9) ?_⟩
      rw [avail, if_pos ho]
      exact ⟨p9, rfl, upd_same⟩
    · have ho : ¬ isOwn ms (m, n) = true := by
        rw [isOwn_decl]
        cases h : decl ms m n with
        | none => decide
        | some l => rw [h] at hd; exact absurd rfl hd
      refine ⟨_, rfl, _, rfl, _, rfl, two_le, fun p9 np9 => ?_⟩
      have s3 := Same.up (o := .tup [.str (S m), .str (S n)]) s02 np9
      refine ⟨dm, .ref p9, ms, false, (m, n), rfl, hM.same s3, ⟨p9, rfl, upd_same⟩, fun H4 v4 s4 hv4 => ?_⟩
      have sA : Same H H4 := fun b u e => s4 _ _ (s3 b u e)
      refine ⟨_, rfl, rfl, ?_⟩
      rw [optP_non hv4]
      refine ⟨_, rfl, ?_⟩
      cases e : lstd false ms (m, n) with
      | none => exact iteT (ret _ _ sA (by rw [avail, if_neg ho, e]; rfl))
      | some q =>
        rw [e] at hv4
        obtain ⟨a9, rfl, h9⟩ := hv4
        refine iteF ?_
        refine ⟨_, rfl, _, rfl, a9, _, _, _, rfl, rfl, SqT.of h9, atI_nat (j := 0) rfl, _, rfl, a9, _, _, _, rfl, rfl, SqT.of h9, atI_nat (j := 1) rfl, dm, ms, q.1, q.2, rfl, hM.same sA, hz, sm0 q e, smt, fun H5 v5 s5 hv5 => ret _ _ (fun b u e => s5 _ _ (sA b u e)) ?_⟩
        rw [avail, if_neg ho, e]
        exact hv5
def spLDecl : L2.Sp := fun vs H Q _ => ∃ (dm : Addr) (u : V) (ms : Mods) (m n : NM), vs = [.ref dm, u] ∧ MD H dm ms ∧ PlV H u (m, n) ∧ (mget ms m).isSome = true ∧ ∀ H' v, Same H H' → optV H' (LV H') v (decl ms m n) → Q v H'
theorem scLDecl : FnScope ["modules", "binding", "line"] ["modules", "binding"] (defScope sLDecl) := ⟨rfl, rfl, rfl, by decide +kernel, rfl, by decide +kernel, by decide +kernel⟩
theorem ok_ldecl {f : Addr} {fd : FuncData} (F : Fun K "_law_declared" "_law_declared" sLDecl f fd) : FnOk P w K mg base CX0 1 f fd ["modules", "binding"] spLDecl := by
  have sc := scLDecl
  refine F.ok sc (fun vs H Q E h => ?_) (fun cdv A outer s H vs Q E hr h => ?_)
  · obtain ⟨dm, u, ms, m, n, rfl, _⟩ := h
    rfl
  · obtain ⟨dm, u, ms, m, n, rfl, hM, ⟨q, rfl, hq⟩, hs, ret⟩ := h
    obtain ⟨kvs, ek, kk⟩ := hM
    rcases kk.val m with ⟨h1, h2⟩ | ⟨ls, v, h1, h2, q9, vs, rfl, g3, g4⟩
    · rw [h1] at hs; cases hs
    have hl : linesOf ms m = ls := by rw [linesOf, h1]; rfl
    refine ⟨_, (pss_cons (ps_for PassesOwn.never rfl (pi_tup (pe_dget (hu_of hr) (pv 0) (pe_ix ix_tup (pv 1) pe_int (fun _ _ => rfl)) (fun _ _ => rfl))) (pg_name (i := 2) sc.nd rfl (Or.inl rfl))
      (pss_one (ps_if (PW.pt (pw_and (pt_cmpR op_in_seq (pe_ix ix_tup (pv 2) pe_int (fun _ _ => rfl)) (pe_tup (pa_cons pe_str (pa_cons pe_str (pa_cons pe_str pa_nil)))) rfl) (pw_and1 (pt_cmpR op_eq (pe_ix ix_tup (pv 2) pe_int (fun _ _ => rfl)) (pe_ix ix_tup (pv 1) pe_int (fun _ _ => rfl)) (nomark _)))))
      (pss_one (ps_ret (pv 2)))
      pss_nil)))
      (pss_one (ps_ret pe_non))), ?_⟩
    refine ⟨_, rfl, _, rfl, q, _, _, _, rfl, rfl, SqT.of hq, atI_nat (j := 0) rfl, dm, .ref q9, rfl, by rw [← h2]; exact DGet.k (k := .inr (S m)) ek, q9, rfl, ⟨_, SqT.of g3⟩, for_tup (K := K) (a := q9) (xs := vs) (fun i σ H' => ∃ y4 : Option V, σ = [some (.ref dm), some (.ref q), y4] ∧ Same H H' ∧ decl ms m n = findOwn n (ls.drop i))
      ⟨none, rfl, Same.refl H, by rw [decl, hl]; rfl⟩ (fun i σ H' _ ⟨_, e, s, _⟩ => SqT.of (s _ _ g3)) ?_ ?_⟩
    · rintro i x σ H1 hx ⟨y4, rfl, s1, e⟩
      obtain ⟨l, el, lv⟩ := pairGetR g4 hx
      have lv' := LV.imp (same_tup s1) lv
      obtain ⟨q5, xs, rfl, k1, k2⟩ := lv'.hd
      have e0 : findOwn n ls = findOwn n (ls.drop i) := by rw [← hl]; rw [← hl] at e; exact e
      refine ⟨_, rfl, q5, _, _, _, rfl, rfl, SqT.of k1, atI_nat (j := 0) rfl, three_le, fun p np => ?_⟩
      have s2 : Same H1 (upd H1 p (.tup OWNv)) := Same.up (Same.refl H1) np
      have sA : Same H (upd H1 p (.tup OWNv)) := Same.up s1 np
      have hin : (if false = true then !inV (.str (lnW l)) OWNv else inV (.str (lnW l)) OWNv) = (lname l).isSome := own_in l
      refine ⟨p, OWNv, rfl, .inr (SqT.of upd_same), rfl, by decide, _, rfl, ite2 (fun hc => ?_) (fun hc => ?_)⟩
      · rw [hin] at hc
        obtain ⟨x, ex⟩ := Option.isSome_iff_exists.mp hc
        obtain ⟨ys, rfl⟩ := k2 x ex
        refine ⟨_, rfl, q5, _, _, _, rfl, rfl, SqT.of (s2 _ _ k1), atI_nat (j := 1) rfl, _, rfl, q, _, _, _, rfl, rfl, SqT.of (sA _ _ hq), atI_nat (j := 1) rfl, rfl, _, rfl, ite2 (fun hk => ?_) (fun hk => ?_)⟩
        · have hk := of_decide_eq_true hk
          injection hk with hk
          have hn : lname l = some n := by rw [ex, S_inj hk]
          have hR : decl ms m n = some l := by rw [decl, hl]; exact findOwn_here el hn e0
          exact ⟨_, rfl, ret _ _ sA (by rw [hR]; exact LV.imp (same_tup s2) lv')⟩
        · refine ⟨_, rfl, sA, ?_⟩
          rw [decl, hl]
          exact findOwn_drop el (fun z => hk (by rw [ex] at z; injection z with z; rw [z]; exact decide_eq_true rfl)) e0
      · refine ⟨_, rfl, sA, ?_⟩
        have hn : ¬ lname l = some n := fun z => hc (by rw [hin, z]; rfl)
        rw [decl, hl]
        exact findOwn_drop el hn e0
    · rintro σ H1 ⟨y4, rfl, s1, e⟩
      refine ret _ _ s1 ?_
      have : ls.drop vs.length = [] := by rw [Paired.length g4]; exact List.drop_length ..
      rw [e, this]
      rfl
end
end K3

set_option maxRecDepth 100000
set_option maxHeartbeats 16000000
/-! the law's exports -/
namespace K3
open PySem hiding Tok code
open PySem.Spec PyProof.Rows GD K1
open L2 hiding rest
open K2 hiding Sp P
abbrev sExps : Stmt := topS 27
abbrev XF := NM → Option (Option Pl)
def xput (f : XF) (x : NM) (o : Option Pl) : XF := fun n => if n = x then some o else f n
def xln (f : XF) : Ln → XF
  | .lt _ x _ => xput f x none
  | .fn x _ _ => xput f x none
  | .lst true ps t => ps.foldl (fun f p => xput f p.2 (some (t, p.1))) f
  | _ => f
def xls (ls : List Ln) : XF := ls.foldl xln fun _ => none
/-- what a dict of exports holds -/
def XV (H : Hp) (kvs : List (Key × V)) (f : XF) : Prop := ∀ n, match f n with
  | none => valV kvs (.inr (S n)) = none
  | some o => ∃ v, valV kvs (.inr (S n)) = some v ∧ optV H (PlV H) v o
theorem XV.imp {H H' : Hp} {kvs : List (Key × V)} {f : XF} (k : ∀ q xs, H q = some (.tup xs) → H' q = some (.tup xs)) (h : XV H kvs f) : XV H' kvs f := fun n => by
  have := h n
  cases e : f n with
  | none => rw [e] at this; exact this
  | some o => rw [e] at this; obtain ⟨v, h1, h2⟩ := this; exact ⟨v, h1, optP_imp k h2⟩
theorem XV.put {H : Hp} {kvs : List (Key × V)} {f : XF} (h : XV H kvs f) (x : NM) {v : V} {o : Option Pl} (hv : optV H (PlV H) v o) : XV H (putK kvs (.inr (S x)) v) (xput f x o) := fun n => by
  have := h n
  unfold xput
  by_cases e : n = x
  · rw [if_pos e, e]
    exact ⟨v, by rw [valV_put, if_pos rfl], hv⟩
  · rw [if_neg e]
    have hk : ¬ (Sum.inr (S n) : Key) = .inr (S x) := fun z => e (by injection z with z; exact S_inj z)
    cases e : f n with
    | none => rw [e] at this; show valV _ _ = none; rw [valV_put, if_neg hk]; exact this
    | some o => rw [e] at this; obtain ⟨v, h1, h2⟩ := this; exact ⟨v, by rw [valV_put, if_neg hk]; exact h1, h2⟩
theorem foldl_take {α β : Type} {f : β → α → β} {z : β} {l : List α} {i : Nat} {x : α} (h : l[i]? = some x) : (l.take (i + 1)).foldl f z = f ((l.take i).foldl f z) x := by
  rw [List.take_add_one, h, List.foldl_append]
  rfl
/-- lines that are few -/
def few (ls : List Ln) : Prop := ls.length ≤ 30 ∧ ∀ w ps m, Ln.lst w ps m ∈ ls → ps.length ≤ 3
section
variable {P : Program} {w : World} {K : PySem.W.Frag} {mg : Str → Option Value} {base : Heap}
def spExps : L2.Sp := fun vs H Q _ => ∃ (q : Addr) (us : List V) (ls : List Ln), vs = [.ref q] ∧ H q = some (.tup us) ∧ LVs H us ls ∧ few ls ∧ ∀ H' D kvs, Same H H' → H' D = some (.dK kvs) → XV H' kvs (xls ls) → Q (.ref D) H'
theorem scExps : FnScope ["lines", "found", "line", "name", "called"] ["lines"] (defScope sExps) := ⟨rfl, rfl, rfl, by decide +kernel, rfl, by decide +kernel, by decide +kernel⟩
theorem ok_exps {f : Addr} {fd : FuncData} (F : Fun K "_law_exports" "_law_exports" sExps f fd) : FnOk P w K mg base CX0 1 f fd ["lines"] spExps := by
  have sc := scExps
  refine F.ok sc (fun vs H Q E h => ?_) (fun cdv A outer s H vs Q E hr h => ?_)
  · obtain ⟨q, us, ls, rfl, _⟩ := h
    rfl
  · obtain ⟨q, us, ls, rfl, hq, hL, ⟨hf1, hf2⟩, ret⟩ := h
    refine ⟨_, (pss_cons (ps_set (i := 1) sc.nd rfl (Or.inl rfl) pe_dnewK)
      (pss_cons (ps_for PassesOwn.never rfl (pi_tup (pv 0)) (pg_name (i := 2) sc.nd rfl (Or.inl rfl))
      (pss_cons (ps_if (pt_cmpR op_in_seq (pe_ix ix_tup (pv 2) pe_int (fun _ _ => rfl)) (pe_tup (pa_cons pe_str (pa_cons pe_str (pa_cons pe_str pa_nil)))) rfl)
      (pss_one (ps_dput (hu_of hr) (pv 1) (pe_ix ix_tup (pv 2) pe_int (fun _ _ => rfl)) pe_non rfl))
      pss_nil)
      (pss_one (ps_if (pt_cmpR op_eq (pe_ix ix_tup (pv 2) pe_int (fun _ _ => rfl)) pe_str (nomark _))
      (pss_one (ps_for PassesOwn.never rfl (pi_tup (pe_ix ix_tup (pv 2) pe_int (fun _ _ => rfl))) (pg_tup rfl (pgs_cons (pg_name (i := 3) sc.nd rfl (Or.inl rfl)) (pgs_cons (pg_name (i := 4) sc.nd rfl (Or.inl rfl)) pgs_nil)))
      (pss_one (ps_dput (hu_of hr) (pv 1) (pv 4) (pe_tup (pa_cons (pe_ix ix_tup (pv 2) pe_int (fun _ _ => rfl)) (pa_cons (pv 3) pa_nil))) rfl))))
      pss_nil))))
      (pss_one (ps_ret (pv 1))))), ?_⟩
    refine fun D nD => ⟨_, rfl, q, rfl, ⟨_, SqT.of (Same.up (Same.refl H) nD _ _ hq)⟩, for_tup (K := K) (a := q) (xs := us) (fun i σ H' => ∃ (y2 y3 y4 : Option V) (kvs : List (Key × V)), σ = [some (.ref q), some (.ref D), y2, y3, y4] ∧ Same H H' ∧ H' D = some (.dK kvs) ∧ XV H' kvs ((ls.take i).foldl xln fun _ => none) ∧ kvs.length ≤ 3 * i)
      ⟨none, none, none, [], rfl, Same.up (Same.refl H) nD, upd_same, fun n => rfl, Nat.le_refl _⟩ (fun i σ H' _ ⟨_, _, _, _, _, s, _⟩ => SqT.of (s _ _ hq)) ?_ ?_⟩
    · rintro i x σ H1 hx ⟨y2, y3, y4, kvs, rfl, s1, eD, xv, hl⟩
      obtain ⟨l, el, lv⟩ := pairGetR hL hx
      have hil : i < ls.length := (List.getElem?_eq_some_iff.mp el).1
      have lv' := LV.imp (same_tup s1) lv
      obtain ⟨q5, xs, rfl, k1, k2⟩ := lv'.hd
      refine ⟨_, rfl, q5, _, _, _, rfl, rfl, SqT.of k1, atI_nat (j := 0) rfl, three_le, fun p np => ?_⟩
      have s2 : Same H1 (upd H1 p (.tup OWNv)) := Same.up (Same.refl H1) np
      have sA : Same H (upd H1 p (.tup OWNv)) := Same.up s1 np
      have hin : (if false = true then !inV (.str (lnW l)) OWNv else inV (.str (lnW l)) OWNv) = (lname l).isSome := own_in l
      refine ⟨p, OWNv, rfl, .inr (SqT.of upd_same), rfl, by decide, _, rfl, ite2 (fun hc => ?_) (fun hc => ?_)⟩
      · rw [hin] at hc
        obtain ⟨x, ex⟩ := Option.isSome_iff_exists.mp hc
        obtain ⟨ys, rfl⟩ := k2 x ex
        have hx1 : xln ((ls.take i).foldl xln fun _ => none) l = xput ((ls.take i).foldl xln fun _ => none) x none := by
          cases l with
          | lst _ _ _ => cases ex
          | lt _ _ _ => cases ex; rfl
          | fn _ _ _ => cases ex; rfl
          | dw _ _ => cases ex
        have hno : ¬ lnW l = lW true := fun z => by
          have := (lnW_eq true l).mp z
          cases l with
          | lst _ _ _ => cases ex
          | lt _ _ _ => cases this
          | fn _ _ _ => cases this
          | dw _ _ => cases ex
        have sD : Same H (upd (upd H1 p (.tup OWNv)) D (.dK (putK kvs (.inr (S x)) .non))) := Same.wr sA nD
        have kD : ∀ q xs, upd H1 p (.tup OWNv) q = some (.tup xs) → upd (upd H1 p (.tup OWNv)) D (.dK (putK kvs (.inr (S x)) .non)) q = some (.tup xs) := fun q xs h => by
          rw [upd_ne (fun e => by rw [e, s2 _ _ eD] at h; cases h)]; exact h
        refine ⟨_, rfl, _, rfl, q5, _, _, _, rfl, rfl, SqT.of (s2 _ _ k1), atI_nat (j := 1) rfl, D, _, rfl, DPut.k (k := .inr (S x)) (s2 _ _ eD) (szl (by omega)), ?_⟩
        refine ⟨_, rfl, q5, _, _, _, rfl, rfl, SqT.of (kD _ _ (s2 _ _ k1)), atI_nat (j := 0) rfl, rfl, _, rfl, ite2 (fun hk => absurd (by have := of_decide_eq_true hk; injection this) hno) (fun _ => ?_)⟩
        refine ⟨_, _, _, _, rfl, sD, upd_same, ?_, Nat.le_trans (length_putK ..) (by omega)⟩
        rw [foldl_take el, hx1]
        exact XV.put (XV.imp kD (XV.imp (same_tup s2) xv)) x (o := none) rfl
      · refine ⟨_, rfl, q5, _, _, _, rfl, rfl, SqT.of (s2 _ _ k1), atI_nat (j := 0) rfl, rfl, _, rfl, ite2 (fun hk => ?_) (fun hk => ?_)⟩
        · have hk := of_decide_eq_true hk
          injection hk with hk
          have hl' := (lnW_eq true l).mp hk
          match l, hl' with
          | .lst v ps t, hl' =>
            obtain rfl : v = true := by simpa [isLst] using hl'
            have hp3 := hf2 _ _ _ (List.mem_of_getElem? el)
            obtain ⟨q6, a6, us6, eq6, h3, h4, h5⟩ := lv'
            obtain rfl : q5 = q6 := by injection eq6
            rw [k1] at h3
            injection h3 with h3
            injection h3 with h3
            rw [h3] at k1
            refine ⟨_, rfl, q5, _, _, _, rfl, rfl, SqT.of (s2 _ _ k1), atI_nat (j := 1) rfl, a6, rfl, ⟨_, SqT.of (s2 _ _ h4)⟩, for_tup (K := K) (a := a6) (xs := us6) (fun j σ H' => ∃ (y3 y4 : Option V) (kvs : List (Key × V)), σ = [some (.ref q), some (.ref D), some (.ref q5), y3, y4] ∧ Same H H' ∧ (∀ q xs, H1 q = some (.tup xs) → H' q = some (.tup xs)) ∧ H' D = some (.dK kvs) ∧ XV H' kvs ((ps.take j).foldl (fun f p => xput f p.2 (some (t, p.1))) ((ls.take i).foldl xln fun _ => none)) ∧ kvs.length ≤ 3 * i + j)
              ⟨_, _, kvs, rfl, sA, same_tup s2, s2 _ _ eD, XV.imp (same_tup s2) xv, by omega⟩ (fun i σ H' _ ⟨_, _, _, _, _, k, _⟩ => SqT.of (k _ _ h4)) ?_ ?_⟩
            · rintro j x σ H3 hx ⟨y3, y4, kvs3, rfl, s3, k3, eD3, xv3, hl3⟩
              obtain ⟨pp, epp, r9, rfl, hr9⟩ := pairGetR h5 hx
              have hj : j < ps.length := (List.getElem?_eq_some_iff.mp epp).1
              refine ⟨r9, _, rfl, SqT.of (k3 _ _ hr9), rfl, _, _, rfl, _, _, rfl, rfl, ?_⟩
              refine ⟨_, rfl, q5, _, _, _, rfl, rfl, SqT.of (k3 _ _ k1), atI_nat (j := 2) rfl, _, rfl, two_le, fun p9 np9 => ?_⟩
              have s4 := Same.up (o := .tup [.str (S t), .str (S pp.1)]) (Same.refl H3) np9
              have sD : Same H (upd (upd H3 p9 (.tup [.str (S t), .str (S pp.1)])) D (.dK (putK kvs3 (.inr (S pp.2)) (.ref p9)))) := Same.wr (Same.up s3 np9) nD
              have kD : ∀ q xs, upd H3 p9 (.tup [.str (S t), .str (S pp.1)]) q = some (.tup xs) → upd (upd H3 p9 (.tup [.str (S t), .str (S pp.1)])) D (.dK (putK kvs3 (.inr (S pp.2)) (.ref p9))) q = some (.tup xs) := fun q xs h => by
                rw [upd_ne (fun e => by rw [e, s4 _ _ eD3] at h; cases h)]; exact h
              refine ⟨_, rfl, _, rfl, D, _, rfl, DPut.k (k := .inr (S pp.2)) (s4 _ _ eD3) (szl (by omega)), ?_⟩
              refine ⟨_, _, _, rfl, sD, fun q xs h => kD _ _ (s4 _ _ (k3 _ _ h)), upd_same, ?_, Nat.le_trans (length_putK ..) (by omega)⟩
              rw [foldl_take epp]
              exact XV.put (XV.imp kD (XV.imp (same_tup s4) xv3)) pp.2 (o := some (t, pp.1)) ⟨p9, rfl, kD _ _ upd_same⟩
            · rintro σ H3 ⟨y3, y4, kvs3, rfl, s3, k3, eD3, xv3, hl3⟩
              have hul : us6.length = ps.length := Paired.length h5
              refine ⟨_, _, _, _, rfl, s3, eD3, ?_, by omega⟩
              rw [foldl_take el]
              rw [hul, List.take_length] at xv3
              exact xv3
        · refine ⟨_, _, _, _, rfl, sA, s2 _ _ eD, ?_, by omega⟩
          have hx1 : xln ((ls.take i).foldl xln fun _ => none) l = (ls.take i).foldl xln fun _ => none := by
            rw [hin] at hc
            cases l with
            | lst v _ _ =>
              cases v with
              | false => rfl
              | true => exact absurd (decide_eq_true rfl) hk
            | lt _ _ _ => exact absurd rfl hc
            | fn _ _ _ => exact absurd rfl hc
            | dw _ _ => rfl
          rw [foldl_take el, hx1]
          exact XV.imp (same_tup s2) xv
    · rintro σ H1 ⟨y2, y3, y4, kvs, rfl, s1, eD, xv, hl⟩
      have hul : us.length = ls.length := Paired.length hL
      refine ⟨_, rfl, ret _ _ kvs s1 eD ?_⟩
      rw [hul, List.take_length] at xv
      exact xv
end
end K3

set_option maxRecDepth 100000
set_option maxHeartbeats 16000000
/-! the law's follow, leads -/
namespace K3
open PySem hiding Tok code
open PySem.Spec PyProof.Rows GD K1
open L2 hiding rest
open K2 hiding Sp P
abbrev sLFollow : Stmt := topS 28
abbrev sLeads : Stmt := topS 29
/-- modules whose exports are told apart -/
def ExOK (ms : Mods) : Prop := ∀ m ls, mget ms m = some ls → few ls ∧ ∀ n, xls ls n = if (findOwn n ls).isSome = true then some none else (findList true n ls).map some
theorem turns_no {ms : Mods} {m n : NM} (h : mget ms m = none) (k : Nat) : turns ms k (m, n) = none := by
  cases k with
  | zero => rfl
  | succ k =>
    have hl : linesOf ms m = [] := by rw [linesOf, h]; rfl
    rw [turns, isOwn_decl, decl, hl, lstd, hl]
    rfl
theorem turns_x {ms : Mods} {m n : NM} {ls : List Ln} (h : mget ms m = some ls) (hx : xls ls n = if (findOwn n ls).isSome = true then some none else (findList true n ls).map some) (k : Nat) :
    turns ms (k + 1) (m, n) = match xls ls n with | none => none | some none => some (m, n) | some (some q) => turns ms k q := by
  have hl : linesOf ms m = ls := by rw [linesOf, h]; rfl
  rw [turns, isOwn_decl, decl, hl, lstd, hl, hx]
  cases h1 : (findOwn n ls).isSome with
  | true => rfl
  | false =>
    rw [if_neg (by decide), if_neg (by decide)]
    cases findList true n ls <;> rfl
theorem kk_in {H : Hp} {dm : Addr} {ms : Mods} (h : MD H dm ms) (n : NM) : ∃ o, DGet H dm (kV (.inr (S n))) o ∧ o.isSome = (mget ms n).isSome ∧ ∀ ls, mget ms n = some ls → ∃ q vs, o = some (.ref q) ∧ H q = some (.tup vs) ∧ LVs H vs ls := by
  obtain ⟨kvs, e, k⟩ := h
  refine ⟨_, DGet.k (k := .inr (S n)) e, ?_⟩
  rcases k.val n with ⟨h1, h2⟩ | ⟨ls, v, h1, h2, q, vs, rfl, h3, h4⟩
  · rw [h1, h2]; exact ⟨rfl, fun ls h => (by cases h)⟩
  · rw [h1, h2]; exact ⟨rfl, fun ls h => by cases h; exact ⟨q, vs, rfl, h3, h4⟩⟩
section
variable {P : Program} {w : World} {K : PySem.W.Frag} {mg : Str → Option Value} {base : Heap}
def spLFol : L2.Sp := fun vs H Q _ => ∃ (dm : Addr) (ms : Mods) (m n : NM), vs = [.ref dm, .str (S m), .str (S n)] ∧ MD H dm ms ∧ ExOK ms ∧
  ∀ H' v, Same H H' → optV H' (PlV H') v (turns ms 100 (m, n)) → Q v H'
theorem scLFollow : FnScope ["modules", "module", "name", "turn", "found"] ["modules", "module", "name"] (defScope sLFollow) := ⟨rfl, rfl, rfl, by decide +kernel, rfl, by decide +kernel, by decide +kernel⟩
theorem ok_lfollow {f f1 : Addr} {fd fd1 : FuncData} (F : Fun K "_law_follow" "_law_follow" sLFollow f fd) (T : Txt K mg) (FX : FO P w K mg base CX0 1 "_law_exports" ["lines"] spExps f1 fd1) : FnOk P w K mg base CX0 2 f fd ["modules", "module", "name"] spLFol := by
  have sc := scLFollow
  refine F.ok sc (fun vs H Q E h => ?_) (fun cdv A outer s H vs Q E hr h => ?_)
  · obtain ⟨dm, ms, m, n, rfl, _⟩ := h
    rfl
  · obtain ⟨dm, ms, m, n, rfl, hM, hX, ret⟩ := h
    refine ⟨_, (pss_cons (ps_for PassesOwn.never rfl (pi_range1 rfl T.range (pa_cons pe_int pa_nil)) (pg_name (i := 3) sc.nd rfl (Or.inl rfl))
      (pss_cons (ps_if (pt_cmp (pc_dnotin (hu_of hr) (pv 1) (pv 0)))
      (pss_one (ps_ret pe_non))
      pss_nil)
      (pss_cons (ps_set (i := 4) sc.nd rfl (Or.inl rfl) (pe_call FX.ok hr (by rfl) FX.m FX.kp FX.b .nil pass0 (pa_cons (pe_dget (hu_of hr) (pv 0) (pv 1) (fun _ _ => rfl)) pa_nil)))
      (pss_cons (ps_if (pt_cmp (pc_dnotin (hu_of hr) (pv 2) (pv 4)))
      (pss_one (ps_ret pe_non))
      pss_nil)
      (pss_cons (ps_if (pt_cmpR op_isN (pe_dget (hu_of hr) (pv 4) (pv 2) (fun _ _ => rfl)) pe_non (nomark _))
      (pss_one (ps_ret (pe_tup (pa_cons (pv 1) (pa_cons (pv 2) pa_nil)))))
      pss_nil)
      (pss_one (ps_asg (pe_dget (hu_of hr) (pv 4) (pv 2) (fun _ _ => rfl)) (pg_tup rfl (pgs_cons (pg_name (i := 1) sc.nd rfl (Or.inl rfl)) (pgs_cons (pg_name (i := 2) sc.nd rfl (Or.inl rfl)) pgs_nil))))))))))
      (pss_one (ps_ret pe_non))), ?_⟩
    refine ⟨_, rfl, by decide, by decide, for_range (lo := 0) (n := 100) (fun i σ H' => ∃ (p : Pl) (y3 y4 : Option V), σ = [some (.ref dm), some (.str (S p.1)), some (.str (S p.2)), y3, y4] ∧ Same H H' ∧ turns ms 100 (m, n) = turns ms (100 - i) p)
      ⟨(m, n), none, none, rfl, Same.refl H, rfl⟩ ?_ ?_⟩
    · rintro i σ H1 hi ⟨⟨m1, n1⟩, y3, y4, rfl, s1, e⟩
      obtain ⟨k, hk⟩ : ∃ k, 100 - i = k + 1 := ⟨99 - i, by omega⟩
      have hk2 : 100 - (i + 1) = k := by omega
      rw [hk] at e
      obtain ⟨o, g1, g2, g3⟩ := kk_in (hM.same s1) m1
      refine ⟨_, rfl, _, rfl, dm, o, rfl, g1, ?_⟩
      rw [g2]
      refine ⟨_, rfl, ite2 (fun hc => ?_) (fun hc => ?_)⟩
      · have hn : mget ms m1 = none := by simpa using hc
        exact ret _ _ s1 (by rw [e, turns_no hn]; rfl)
      · have hs : (mget ms m1).isSome = true := by
          cases h : mget ms m1 with
          | none => rw [h] at hc; exact absurd rfl hc
          | some _ => rfl
        obtain ⟨ls, els⟩ := Option.isSome_iff_exists.mp hs
        obtain ⟨q, vs, rfl, g4, g5⟩ := g3 ls els
        obtain ⟨hfew, hxl⟩ := hX m1 ls els
        have et := turns_x (n := n1) els (hxl n1) k
        refine ⟨_, rfl, _, rfl, dm, .ref q, rfl, g1, q, vs, ls, rfl, g4, g5, hfew, fun H2 D kvs s2 eD xv => ?_⟩
        have sA : Same H H2 := fun b u e => s2 _ _ (s1 b u e)
        have xn := xv n1
        refine ⟨_, rfl, _, rfl, D, _, rfl, DGet.k (k := .inr (S n1)) eD, ?_⟩
        cases ex : xls ls n1 with
        | none =>
          rw [ex] at xn et
          rw [show valV kvs (.inr (S n1)) = none from xn]
          exact ⟨_, rfl, iteT (ret _ _ sA (by rw [e, et]; rfl))⟩
        | some o =>
          rw [ex] at xn et
          obtain ⟨v, ev, hv⟩ := xn
          rw [ev]
          refine ⟨_, rfl, iteF ?_⟩
          refine ⟨_, rfl, _, rfl, D, v, rfl, by rw [← ev]; exact DGet.k (k := .inr (S n1)) eD, rfl, ?_⟩
          rw [optP_non hv]
          cases o with
          | none =>
            refine ⟨_, rfl, iteT ⟨_, rfl, _, rfl, two_le, fun p9 np9 => ret _ _ (Same.up sA np9) ?_⟩⟩
            rw [e, et]
            exact ⟨p9, rfl, upd_same⟩
          | some p =>
            obtain ⟨a9, rfl, h9⟩ := hv
            refine ⟨_, rfl, iteF ⟨_, rfl, _, rfl, D, .ref a9, rfl, by rw [← ev]; exact DGet.k (k := .inr (S n1)) eD, a9, _, rfl, SqT.of h9, rfl, _, _, rfl, _, _, rfl, rfl, ?_⟩⟩
            exact ⟨p, _, _, rfl, sA, by rw [e, et, hk2]⟩
    · rintro σ H1 ⟨p, y3, y4, rfl, s1, e⟩
      exact ret _ _ s1 (by rw [e]; rfl)
end
end K3

set_option maxRecDepth 100000
set_option maxHeartbeats 16000000
/-! the law's leads -/
namespace K3
open PySem hiding Tok code
open PySem.Spec PyProof.Rows GD K1
open L2 hiding rest
open K2 hiding Sp P
section
variable {P : Program} {w : World} {K : PySem.W.Frag} {mg : Str → Option Value} {base : Heap}
def spLeads : L2.Sp := fun vs H Q _ => ∃ (dm : Addr) (ms : Mods) (m n : NM), vs = [.ref dm, .str (S m), .str (S n)] ∧ MD H dm ms ∧ ExOK ms ∧ (isOwn ms (m, n) = true → lstd false ms (m, n) = none) ∧
  ∀ H' v, Same H H' → optV H' (PlV H') v (avail ms (m, n)) → Q v H'
theorem scLeads : FnScope ["modules", "module", "name", "line", "other", "called"] ["modules", "module", "name"] (defScope sLeads) := ⟨rfl, rfl, rfl, by decide +kernel, rfl, by decide +kernel, by decide +kernel⟩
theorem ok_leads {f f1 : Addr} {fd fd1 : FuncData} (F : Fun K "_law_leads" "_law_leads" sLeads f fd) (FF : FO P w K mg base CX0 2 "_law_follow" ["modules", "module", "name"] spLFol f1 fd1) : FnOk P w K mg base CX0 3 f fd ["modules", "module", "name"] spLeads := by
  have sc := scLeads
  refine F.ok sc (fun vs H Q E h => ?_) (fun cdv A outer s H vs Q E hr h => ?_)
  · obtain ⟨dm, ms, m, n, rfl, _⟩ := h
    rfl
  · obtain ⟨dm, ms, m, n, rfl, hM, hX, hdis, ret⟩ := h
    refine ⟨_, (pss_cons (ps_if (pt_cmp (pc_dnotin (hu_of hr) (pv 1) (pv 0)))
      (pss_one (ps_ret pe_non))
      pss_nil)
      (pss_cons (ps_for PassesOwn.never rfl (pi_tup (pe_dget (hu_of hr) (pv 0) (pv 1) (fun _ _ => rfl))) (pg_name (i := 3) sc.nd rfl (Or.inl rfl))
      (pss_cons (ps_if (PW.pt (pw_and (pt_cmpR op_in_seq (pe_ix ix_tup (pv 3) pe_int (fun _ _ => rfl)) (pe_tup (pa_cons pe_str (pa_cons pe_str (pa_cons pe_str pa_nil)))) rfl) (pw_and1 (pt_cmpR op_eq (pe_ix ix_tup (pv 3) pe_int (fun _ _ => rfl)) (pv 2) (nomark _)))))
      (pss_one (ps_ret (pe_tup (pa_cons (pv 1) (pa_cons (pv 2) pa_nil)))))
      pss_nil)
      (pss_one (ps_if (pt_cmpR op_eq (pe_ix ix_tup (pv 3) pe_int (fun _ _ => rfl)) pe_str (nomark _))
      (pss_one (ps_for PassesOwn.never rfl (pi_tup (pe_ix ix_tup (pv 3) pe_int (fun _ _ => rfl))) (pg_tup rfl (pgs_cons (pg_name (i := 4) sc.nd rfl (Or.inl rfl)) (pgs_cons (pg_name (i := 5) sc.nd rfl (Or.inl rfl)) pgs_nil)))
      (pss_one (ps_if (pt_cmpR op_eq (pv 5) (pv 2) (nomark _))
      (pss_one (ps_ret (pe_call FF.ok hr (by rfl) FF.m FF.kp FF.b .nil pass0 (pa_cons (pv 0) (pa_cons (pe_ix ix_tup (pv 3) pe_int (fun _ _ => rfl)) (pa_cons (pv 4) pa_nil))))))
      pss_nil))))
      pss_nil))))
      (pss_one (ps_ret pe_non)))), ?_⟩
    obtain ⟨o, g1, g2, g3⟩ := kk_in hM m
    refine ⟨_, rfl, _, rfl, dm, o, rfl, g1, ?_⟩
    rw [g2]
    refine ⟨_, rfl, ite2 (fun hc => ?_) (fun hc => ?_)⟩
    · have hn : mget ms m = none := by simpa using hc
      have hl : linesOf ms m = [] := by rw [linesOf, hn]; rfl
      exact ret _ _ (Same.refl H) (by rw [avail, isOwn_decl, decl, hl, lstd, hl]; rfl)
    · have hs : (mget ms m).isSome = true := by
        cases h : mget ms m with
        | none => rw [h] at hc; exact absurd rfl hc
        | some _ => rfl
      obtain ⟨ls, els⟩ := Option.isSome_iff_exists.mp hs
      obtain ⟨q, vs, rfl, g4, g5⟩ := g3 ls els
      have hl : linesOf ms m = ls := by rw [linesOf, els]; rfl
      have eo : isOwn ms (m, n) = (findOwn n ls).isSome := by rw [isOwn_decl, decl, hl]
      have ei : lstd false ms (m, n) = findList false n ls := by rw [lstd, hl]
      refine ⟨_, rfl, _, rfl, dm, .ref q, rfl, g1, q, rfl, ⟨_, SqT.of g4⟩, for_tup (K := K) (a := q) (xs := vs) (fun i σ H' => ∃ (y3 y4 y5 : Option V), σ = [some (.ref dm), some (.str (S m)), some (.str (S n)), y3, y4, y5] ∧ Same H H' ∧ findOwn n ls = findOwn n (ls.drop i) ∧ findList false n ls = findList false n (ls.drop i))
        ⟨none, none, none, rfl, Same.refl H, rfl, rfl⟩ (fun i σ H' _ ⟨_, _, _, _, s, _⟩ => SqT.of (s _ _ g4)) ?_ ?_⟩
      · rintro i x σ H1 hx ⟨y3, y4, y5, rfl, s1, e1, e2⟩
        obtain ⟨l, el, lv⟩ := pairGetR g5 hx
        have lv' := LV.imp (same_tup s1) lv
        obtain ⟨q5, xs, rfl, k1, k2⟩ := lv'.hd
        refine ⟨_, rfl, q5, _, _, _, rfl, rfl, SqT.of k1, atI_nat (j := 0) rfl, three_le, fun p np => ?_⟩
        have s2 : Same H1 (upd H1 p (.tup OWNv)) := Same.up (Same.refl H1) np
        have sA : Same H (upd H1 p (.tup OWNv)) := Same.up s1 np
        have hin : (if false = true then !inV (.str (lnW l)) OWNv else inV (.str (lnW l)) OWNv) = (lname l).isSome := own_in l
        refine ⟨p, OWNv, rfl, .inr (SqT.of upd_same), rfl, by decide, _, rfl, ite2 (fun hc => ?gA) (fun hc => ?gB)⟩
        case' gA =>
          rw [hin] at hc
          obtain ⟨x, ex⟩ := Option.isSome_iff_exists.mp hc
          obtain ⟨ys, rfl⟩ := k2 x ex
          refine ⟨_, rfl, q5, _, _, _, rfl, rfl, SqT.of (s2 _ _ k1), atI_nat (j := 1) rfl, _, rfl, rfl, _, rfl, ite2 (fun hk => ?gC) (fun hk => ?gD)⟩
        case gC =>
          have hk := of_decide_eq_true hk
          injection hk with hk
          have hn : lname l = some n := by rw [ex, S_inj hk]
          have ho : isOwn ms (m, n) = true := by rw [eo, findOwn_here el hn e1]; rfl
          refine ⟨_, rfl, _, rfl, two_le, fun p9 np9 => ret _ _ (Same.up sA np9) ?_⟩
          rw [avail, if_pos ho]
          exact ⟨p9, rfl, upd_same⟩
        case' gD => have hn : ¬ lname l = some n := fun z => hk (by rw [ex] at z; injection z with z; rw [z]; exact decide_eq_true rfl)
        case' gB => have hn : ¬ lname l = some n := fun z => hc (by rw [hin, z]; rfl)
        all_goals (
          refine ⟨_, rfl, q5, _, _, _, rfl, rfl, SqT.of (s2 _ _ k1), atI_nat (j := 0) rfl, rfl, _, rfl, ite2 (fun hk => ?_) (fun hk => ?_)⟩
          · have hk := of_decide_eq_true hk
            injection hk with hk
            have hl' := (lnW_eq false l).mp hk
            match l, hl' with
            | .lst v ps t, hl' =>
              obtain rfl : v = false := by simpa [isLst] using hl'
              obtain ⟨q6, a6, us6, eq6, h3, h4, h5⟩ := lv'
              obtain rfl : q5 = q6 := by injection eq6
              rw [k1] at h3
              injection h3 with h3
              injection h3 with h3
              rw [h3] at k1
              refine ⟨_, rfl, q5, _, _, _, rfl, rfl, SqT.of (s2 _ _ k1), atI_nat (j := 1) rfl, a6, rfl, ⟨_, SqT.of (s2 _ _ h4)⟩, for_tup (K := K) (a := a6) (xs := us6) (fun j σ H' => ∃ (y4 y5 : Option V), σ = [some (.ref dm), some (.str (S m)), some (.str (S n)), some (.ref q5), y4, y5] ∧ H' = upd H1 p (.tup OWNv) ∧ ps.find? (fun p => decide (p.2 = n)) = (ps.drop j).find? fun p => decide (p.2 = n))
                ⟨_, _, rfl, rfl, rfl⟩ (fun i σ H' _ ⟨_, _, _, e, _⟩ => by rw [e]; exact SqT.of (s2 _ _ h4)) ?_ ?_⟩
              · rintro j x σ H3 hx ⟨y4, y5, rfl, rfl, e6⟩
                obtain ⟨pp, epp, r9, rfl, hr9⟩ := pairGetR h5 hx
                refine ⟨r9, _, rfl, SqT.of (s2 _ _ hr9), rfl, _, _, rfl, _, _, rfl, rfl, ?_⟩
                refine ⟨_, rfl, _, rfl, rfl, _, rfl, ite2 (fun hk => ?_) (fun hk => ?_)⟩
                · have hk := of_decide_eq_true hk
                  injection hk with hk
                  have hf := find_here epp (decide_eq_true (S_inj hk)) e6
                  have hR : findList false n ls = some (t, pp.1) := findList_some el (by rw [listHere, if_pos rfl, hf]; rfl) e2
                  have ho : ¬ isOwn ms (m, n) = true := fun z => by have := hdis z; rw [ei, hR] at this; cases this
                  refine ⟨_, rfl, _, rfl, q5, _, _, _, rfl, rfl, SqT.of (s2 _ _ k1), atI_nat (j := 2) rfl, _, rfl, dm, ms, t, pp.1, rfl, hM.same sA, hX, fun H5 v5 s5 hv5 => ret _ _ (fun b u e => s5 _ _ (sA b u e)) ?_⟩
                  rw [avail, if_neg ho, ei, hR]
                  exact hv5
                · exact ⟨_, _, rfl, rfl, find_drop epp (decide_eq_false fun z => hk (decide_eq_true (by rw [z]))) e6⟩
              · rintro σ H3 ⟨y4, y5, rfl, rfl, e6⟩
                refine ⟨_, _, _, rfl, sA, findOwn_drop el hn e1, findList_none el ?_ e2⟩
                have : ps.drop us6.length = [] := by rw [Paired.length h5]; exact List.drop_length ..
                rw [this] at e6
                rw [listHere, e6]
                rfl
          · refine ⟨_, _, _, rfl, sA, findOwn_drop el hn e1, findList_none el ?_ e2⟩
            match l with
            | .lst v ps t =>
              have : ¬ v = false := fun z => hk (decide_eq_true (congrArg V.str ((lnW_eq false (.lst v ps t)).mpr (by simp [isLst, z]))))
              rw [listHere, if_neg this]
            | .lt _ _ _ => rfl
            | .fn _ _ _ => rfl
            | .dw _ _ => rfl)
      · rintro σ H1 ⟨y3, y4, y5, rfl, s1, e1, e2⟩
        refine ret _ _ s1 ?_
        have hd : ls.drop vs.length = [] := by rw [Paired.length g5]; exact List.drop_length ..
        rw [hd] at e1 e2
        rw [avail, eo, e1, ei, e2]
        rfl
end
end K3

set_option maxRecDepth 100000
set_option maxHeartbeats 16000000
/-! depth first -/
namespace K3
open PySem hiding Tok code
open PySem.Spec PyProof.Rows GD K1
open L2 hiding rest
open K2 hiding Sp P
abbrev sLVisit : Stmt := topS 31
abbrev DS := List NM × List NM
abbrev DR := NM ⊕ DS
def lnT : Ln → Option NM
  | .lst _ _ t => some t
  | _ => none
def tgs (ls : List Ln) : List NM := ls.filterMap lnT
def visL (f : NM → DS → DR) : List NM → DS → DR
  | [], s => .inr s
  | t :: r, s => match f t s with
    | .inl x => .inl x
    | .inr s' => visL f r s'
def vis (ms : Mods) : Nat → NM → DS → DR
  | 0, _, s => .inr s
  | k + 1, m, s => if m ∈ s.1 then .inr s else match mget ms m with
    | none => .inl m
    | some ls => match visL (vis ms k) (tgs ls) (s.1 ++ [m], s.2) with
      | .inl x => .inl x
      | .inr s' => .inr (s'.1, s'.2 ++ [m])
/-- how many are not visited -/
def unv (ms : Mods) (s : List NM) : Nat := (ms.filter fun m => decide (m.1 ∉ s)).length
theorem unv_le {s s' : List NM} (h : ∀ x ∈ s, x ∈ s') : ∀ ms : Mods, unv ms s' ≤ unv ms s
  | [] => Nat.le_refl _
  | m :: ms => by
    have ih := unv_le h ms
    unfold unv at ih ⊢
    rw [List.filter_cons, List.filter_cons]
    by_cases h1 : m.1 ∈ s
    · rw [if_neg (by simpa using h _ h1), if_neg (by simpa using h1)]; exact ih
    · rw [if_pos (c := decide (m.1 ∉ s) = true) (by simpa using h1)]
      split
      · rw [List.length_cons, List.length_cons]; omega
      · rw [List.length_cons]; omega
theorem unv_add {m : NM} {s : List NM} (hm : m ∉ s) : ∀ {ms : Mods} {ls : List Ln}, mget ms m = some ls → unv ms (s ++ [m]) + 1 ≤ unv ms s
  | [], _, h => by cases h
  | x :: ms, ls, h => by
    have mono := unv_le (s := s) (s' := s ++ [m]) (fun y hy => List.mem_append.mpr (.inl hy)) ms
    unfold unv at mono ⊢
    rw [List.filter_cons, List.filter_cons]
    by_cases e : x.1 = m
    · rw [if_neg (by rw [e]; simp), if_pos (by rw [e]; simpa using hm), List.length_cons]; omega
    · rw [mget_cons, if_neg e] at h
      have ih := unv_add hm h
      unfold unv at ih
      by_cases h1 : x.1 ∈ s
      · rw [if_neg (by simp [h1]), if_neg (by simpa using h1)]; exact ih
      · rw [if_pos (by simp [h1, e]), if_pos (by simpa using h1), List.length_cons, List.length_cons]; omega
structure Le (ms : Mods) (s s' : DS) : Prop where
  u : unv ms s'.1 ≤ unv ms s.1
  a : s'.1.length + unv ms s'.1 ≤ s.1.length + unv ms s.1
  b : s'.2.length + unv ms s'.1 ≤ s.2.length + unv ms s.1
theorem Le.refl (ms : Mods) (s : DS) : Le ms s s := ⟨Nat.le_refl _, Nat.le_refl _, Nat.le_refl _⟩
theorem Le.trans {ms : Mods} {s s1 s2 : DS} (h : Le ms s s1) (k : Le ms s1 s2) : Le ms s s2 := ⟨Nat.le_trans k.u h.u, Nat.le_trans k.a h.a, Nat.le_trans k.b h.b⟩
theorem visL_le {ms : Mods} {f : NM → DS → DR} (hf : ∀ m s s', f m s = .inr s' → Le ms s s') : ∀ {ts : List NM} {s s' : DS}, visL f ts s = .inr s' → Le ms s s'
  | [], s, s', h => by cases h; exact Le.refl ms s
  | t :: r, s, s', h => by
    rw [visL] at h
    cases e : f t s with
    | inl x => rw [e] at h; cases h
    | inr s1 => rw [e] at h; exact (hf _ _ _ e).trans (visL_le hf h)
theorem vis_le {ms : Mods} : ∀ k m s s', vis ms k m s = .inr s' → Le ms s s'
  | 0, m, s, s', h => by cases h; exact Le.refl ms s
  | k + 1, m, s, s', h => by
    rw [vis] at h
    split at h
    · cases h; exact Le.refl ms s
    · rename_i hm
      split at h
      · cases h
      · rename_i ls els
        split at h
        · cases h
        · rename_i s1 e1
          cases h
          have l1 := visL_le (fun m s s' => vis_le k m s s') e1
          have ua := unv_add hm els
          obtain ⟨h1, h2, h3⟩ := l1
          simp only [List.length_append, List.length_singleton] at h1 h2 h3
          exact ⟨by simp only; omega, by simp only; omega, by simp only [List.length_append, List.length_singleton]; omega⟩
theorem list_in (l : Ln) : inV (.str (lnW l)) LISTv = (lnT l).isSome := by
  cases l with
  | lst w _ _ => cases w with
    | false => exact (by decide +kernel : inV (.str "import") LISTv = true)
    | true => exact (by decide +kernel : inV (.str "export") LISTv = true)
  | lt k _ _ => cases k with
    | false => exact (by decide +kernel : inV (.str "let") LISTv = false)
    | true => exact (by decide +kernel : inV (.str "keep") LISTv = false)
  | fn _ _ _ => exact (by decide +kernel : inV (.str "fn") LISTv = false)
  | dw k _ => cases k with
    | false => exact (by decide +kernel : inV (.str "do") LISTv = false)
    | true => exact (by decide +kernel : inV (.str "hold") LISTv = false)
theorem LV.tgt {H : Hp} {q : Addr} {xs : List V} {t : NM} : ∀ {l : Ln}, LV H (.ref q) l → H q = some (.tup xs) → lnT l = some t → xs[2]? = some (.str (S t))
  | .lst _ _ _, ⟨q', a, us, e, h1, h2, h3⟩, h, ht => by
    cases e
    rw [h] at h1
    cases h1
    cases ht
    rfl
  | .lt _ _ t, _, _, ht => by cases ht
  | .fn _ _ t, _, _, ht => by cases ht
  | .dw _ t, _, _, ht => by cases ht
theorem tgs_drop {ls : List Ln} {i : Nat} {l : Ln} (h : ls[i]? = some l) : tgs (ls.drop i) = (match lnT l with | none => tgs (ls.drop (i + 1)) | some t => t :: tgs (ls.drop (i + 1))) := by
  obtain ⟨hi, rfl⟩ := List.getElem?_eq_some_iff.mp h
  rw [List.drop_eq_getElem_cons hi]
  unfold tgs
  rw [List.filterMap_cons]
  cases lnT ls[i] <;> rfl
abbrev sts (l : List NM) : List V := l.map fun l => V.str (S l)
/-- all is kept but two objects -/
def K2p (a b : Addr) (H H' : Hp) : Prop := ∀ q o, q ≠ a → q ≠ b → H q = some o → H' q = some o
theorem K2p.refl (a b : Addr) (H : Hp) : K2p a b H H := fun _ _ _ _ h => h
theorem K2p.trans {a b : Addr} {H H1 H2 : Hp} (x : K2p a b H H1) (y : K2p a b H1 H2) : K2p a b H H2 := fun q o n m h => y q o n m (x q o n m h)
theorem K2p.wa {a b : Addr} {H : Hp} {o : HO} : K2p a b H (upd H a o) := fun q u n m h => by rw [upd_ne n]; exact h
theorem K2p.wb {a b : Addr} {H : Hp} {o : HO} : K2p a b H (upd H b o) := fun q u n m h => by rw [upd_ne m]; exact h
theorem K2p.new {a b l : Addr} {H : Hp} {o : HO} (h : H l = none) : K2p a b H (upd H l o) := fun q u n m k => by rw [upd_ne (ne_of_none k h)]; exact k
theorem K2p.tup {a b : Addr} {H H' : Hp} (k : K2p a b H H') {xa xb : HO} (ha : H a = some xa) (hb : H b = some xb) (na : ∀ xs, xa ≠ .tup xs) (nb : ∀ xs, xb ≠ .tup xs) : ∀ q xs, H q = some (.tup xs) → H' q = some (.tup xs) := fun q xs h =>
  k q _ (fun e => by rw [e, ha] at h; injection h with h; exact na _ h) (fun e => by rw [e, hb] at h; injection h with h; exact nb _ h) h
section
variable {P : Program} {w : World} {K : PySem.W.Frag} {mg : Str → Option Value} {base : Heap}
def spLVis (k : Nat) : L2.Sp := fun vs H Q _ => ∃ (dm : Addr) (m : NM) (sn od : Addr) (ms : Mods) (s : DS), vs = [.ref dm, .str (S m), .ref sn, .ref od] ∧ MD H dm ms ∧ sn ≠ od ∧ H sn = some (.lst (sts s.1)) ∧ H od = some (.lst (sts s.2)) ∧
  unv ms s.1 < k ∧ s.1.length + unv ms s.1 ≤ 100 ∧ s.2.length + unv ms s.1 ≤ 100 ∧ (∀ x H', vis ms k m s = .inl x → K2p sn od H H' → Q (.str (S x)) H') ∧
  ∀ s' H', vis ms k m s = .inr s' → K2p sn od H H' → H' sn = some (.lst (sts s'.1)) → H' od = some (.lst (sts s'.2)) → Q .non H'
theorem scLVisit : FnScope ["modules", "name", "seen", "order", "line", "missing"] ["modules", "name", "seen", "order"] (defScope sLVisit) := ⟨rfl, rfl, rfl, by decide +kernel, rfl, by decide +kernel, by decide +kernel⟩
theorem ok_lvis1 {k : Nat} {f : Addr} {fd : FuncData} (F : Fun K "_law_visit" "_law_visit" sLVisit f fd) (m : mg "_law_visit" = some (.ref f)) (kp : PySem.W.keepIn K (.ref f) = true) (bi : Binds K fd ["modules", "name", "seen", "order"] [])
    (FT : FnOk P w K mg base CX0 (1 + k) f fd ["modules", "name", "seen", "order"] (spLVis k)) : FnOk P w K mg base CX0 (1 + k + 1) f fd ["modules", "name", "seen", "order"] (spLVis (k + 1)) := by
  have sc := scLVisit
  refine F.ok sc (fun vs H Q E h => ?_) (fun cdv A outer s H vs Q E hr h => ?_)
  · obtain ⟨dm, mo, sn, od, ms, s, rfl, _⟩ := h
    rfl
  · obtain ⟨dm, mo, sn, od, ms, s, rfl, hM, hne, hsn, hod, hk, hA, hB, qm, qr⟩ := h
    refine ⟨_, (pss_cons (ps_if (pt_cmpR op_in_seq (pv 1) (pv 2) rfl)
      (pss_one (ps_ret pe_non))
      pss_nil)
      (pss_cons (ps_expr (pe_bm PySem.F.plainAttrs_list PySem.F.slot_list_append PySem.F.type_list_append mt_append (pv 2) (pa_cons (pv 1) pa_nil)))
      (pss_cons (ps_if (pt_cmp (pc_dnotin (hu_of hr) (pv 1) (pv 0)))
      (pss_one (ps_ret (pv 1)))
      pss_nil)
      (pss_cons (ps_for PassesOwn.never rfl (pi_tup (pe_dget (hu_of hr) (pv 0) (pv 1) (fun _ _ => rfl))) (pg_name (i := 4) sc.nd rfl (Or.inl rfl))
      (pss_one (ps_if (pt_cmpR op_in_seq (pe_ix ix_tup (pv 4) pe_int (fun _ _ => rfl)) (pe_tup (pa_cons pe_str (pa_cons pe_str pa_nil))) rfl)
      (pss_cons (ps_set (i := 5) sc.nd rfl (Or.inl rfl) (pe_call FT hr (by rfl) m kp bi .nil pass0 (pa_cons (pv 0) (pa_cons (pe_ix ix_tup (pv 4) pe_int (fun _ _ => rfl)) (pa_cons (pv 2) (pa_cons (pv 3) pa_nil))))))
      (pss_one (ps_if (pt_cmpR op_notN (pv 5) pe_non (nomark _))
      (pss_one (ps_ret (pv 5)))
      pss_nil)))
      pss_nil)))
      (pss_cons (ps_expr (pe_bm PySem.F.plainAttrs_list PySem.F.slot_list_append PySem.F.type_list_append mt_append (pv 3) (pa_cons (pv 1) pa_nil)))
      (pss_one (ps_ret pe_non))))))), ?_⟩
    refine ⟨_, rfl, _, rfl, sn, _, rfl, .inl (SqL.of hsn), rfl, flat_strs _, ?_⟩
    rw [inV_strs]
    refine ⟨_, rfl, ite2 (fun hc => ?_) (fun hc => ?_)⟩
    · have hc : mo ∈ s.1 := by simpa using hc
      exact qr s H (by rw [vis, if_pos hc]) (K2p.refl _ _ _) hsn hod
    · have hc : mo ∉ s.1 := by simpa using hc
      refine ⟨_, rfl, .inl ⟨rfl, _, SqL.of hsn⟩, _, rfl, sn, _, _, rfl, rfl, hsn, szl (by rw [List.length_map]; omega), ?_⟩
      rw [snoc_str]
      have k1 : K2p sn od H (upd H sn (.lst (sts (s.1 ++ [mo])))) := K2p.wa
      have kt1 := K2p.tup k1 hsn hod (fun _ e => by cases e) (fun _ e => by cases e)
      have hdm : dm ≠ sn ∧ dm ≠ od := by
        obtain ⟨kvs, e, _⟩ := hM
        exact ⟨fun z => (by rw [z, hsn] at e; cases e), fun z => (by rw [z, hod] at e; cases e)⟩
      have mdk : ∀ {H'}, K2p sn od H H' → MD H' dm ms := fun {H'} kk => by
        have kt := K2p.tup kk hsn hod (fun _ e => by cases e) (fun _ e => by cases e)
        obtain ⟨kvs, e, r⟩ := hM
        exact ⟨kvs, kk _ _ hdm.1 hdm.2 e, r.imp kt⟩
      obtain ⟨o, g1, g2, g3⟩ := kk_in (mdk k1) mo
      refine ⟨_, rfl, _, rfl, dm, o, rfl, g1, ?_⟩
      rw [g2]
      refine ⟨_, rfl, ite2 (fun hc2 => ?_) (fun hc2 => ?_)⟩
      · have hn : mget ms mo = none := by simpa using hc2
        exact ⟨_, rfl, qm mo _ (by rw [vis, if_neg hc, hn]) k1⟩
      · have hs : (mget ms mo).isSome = true := by
          cases h : mget ms mo with
          | none => rw [h] at hc2; exact absurd rfl hc2
          | some _ => rfl
        obtain ⟨ls, els⟩ := Option.isSome_iff_exists.mp hs
        obtain ⟨q, vs, rfl, g4, g5⟩ := g3 ls els
        have ua := unv_add hc els
        have hv : ∀ r, visL (vis ms k) (tgs ls) (s.1 ++ [mo], s.2) = r → vis ms (k + 1) mo s = match r with | .inl x => .inl x | .inr s' => .inr (s'.1, s'.2 ++ [mo]) := fun r hr => by
          rw [vis, if_neg hc, els]
          simp only [hr]
          all_goals (cases r <;> rfl)
        refine ⟨_, rfl, _, rfl, dm, .ref q, rfl, g1, q, rfl, ⟨_, SqT.of g4⟩, for_tup (K := K) (a := q) (xs := vs) (fun i σ H' => ∃ (y4 y5 : Option V) (s1 : DS), σ = [some (.ref dm), some (.str (S mo)), some (.ref sn), some (.ref od), y4, y5] ∧ K2p sn od H H' ∧ (∀ q xs, upd H sn (.lst (sts (s.1 ++ [mo]))) q = some (.tup xs) → H' q = some (.tup xs)) ∧ H' sn = some (.lst (sts s1.1)) ∧ H' od = some (.lst (sts s1.2)) ∧
            Le ms (s.1 ++ [mo], s.2) s1 ∧ visL (vis ms k) (tgs ls) (s.1 ++ [mo], s.2) = visL (vis ms k) (tgs (ls.drop i)) s1)
          ⟨none, none, (s.1 ++ [mo], s.2), rfl, k1, fun _ _ h => h, upd_same, by rw [upd_ne hne.symm]; exact hod, Le.refl _ _, rfl⟩ (fun i σ H' _ ⟨_, _, _, _, _, kt, _⟩ => SqT.of (kt _ _ g4)) ?_ ?_⟩
        · rintro i x σ H1 hx ⟨y4, y5, s1, rfl, kk, kt, e1, e2, le, ev⟩
          obtain ⟨l, el, lv⟩ := pairGetR g5 hx
          have lv' := LV.imp kt lv
          obtain ⟨q5, xs, rfl, c1, c2⟩ := lv'.hd
          have hin : (if false = true then !inV (.str (lnW l)) LISTv else inV (.str (lnW l)) LISTv) = (lnT l).isSome := list_in l
          refine ⟨_, rfl, q5, _, _, _, rfl, rfl, SqT.of c1, atI_nat (j := 0) rfl, two_le, fun p np => ?_⟩
          have s2 : Same H1 (upd H1 p (.tup LISTv)) := Same.up (Same.refl H1) np
          have kk2 : K2p sn od H (upd H1 p (.tup LISTv)) := kk.trans (K2p.new np)
          refine ⟨p, LISTv, rfl, .inr (SqT.of upd_same), rfl, by decide, _, rfl, ite2 (fun hc3 => ?_) (fun hc3 => ?_)⟩
          · rw [hin] at hc3
            obtain ⟨t, et⟩ := Option.isSome_iff_exists.mp hc3
            have ht := lv'.tgt c1 et
            rw [tgs_drop el, et] at ev
            simp only [visL] at ev
            have le0 := le
            obtain ⟨l1, l2, l3⟩ := le
            simp only [List.length_append, List.length_singleton] at l1 l2 l3
            refine ⟨_, rfl, _, rfl, q5, _, _, _, rfl, rfl, SqT.of (s2 _ _ c1), atI_nat (j := 2) ht, _, rfl, _, rfl, dm, t, sn, od, ms, s1, rfl, mdk kk2, hne, s2 _ _ e1, s2 _ _ e2, by omega, by omega, by omega, fun x H' hx kx => ?_, fun s' H' hx kx f1 f2 => ?_⟩
            · rw [hx] at ev
              exact ⟨_, rfl, rfl, _, rfl, iteT ⟨_, rfl, qm x _ (hv _ ev) (kk2.trans kx)⟩⟩
            · rw [hx] at ev
              refine ⟨_, rfl, rfl, _, rfl, iteF ?_⟩
              have kt2 := K2p.tup kx (s2 _ _ e1) (s2 _ _ e2) (fun _ e => by cases e) (fun _ e => by cases e)
              exact ⟨_, _, s', rfl, kk2.trans kx, fun q xs h => kt2 _ _ (s2 _ _ (kt _ _ h)), f1, f2, le0.trans (vis_le _ _ _ _ hx), ev⟩
          · have hn : lnT l = none := by rw [hin] at hc3; simpa using hc3
            rw [tgs_drop el, hn] at ev
            exact ⟨_, _, s1, rfl, kk2, fun q xs h => s2 _ _ (kt _ _ h), s2 _ _ e1, s2 _ _ e2, le, ev⟩
        · rintro σ H1 ⟨y4, y5, s1, rfl, kk, kt, e1, e2, le, ev⟩
          have hd : ls.drop vs.length = [] := by rw [Paired.length g5]; exact List.drop_length ..
          rw [hd] at ev
          obtain ⟨l1, l2, l3⟩ := le
          simp only [List.length_append, List.length_singleton] at l1 l2 l3
          refine ⟨_, rfl, .inl ⟨rfl, _, SqL.of e2⟩, _, rfl, od, _, _, rfl, rfl, e2, szl (by rw [List.length_map]; omega), ?_⟩
          rw [snoc_str]
          exact qr (s1.1, s1.2 ++ [mo]) _ (hv _ ev) (kk.trans K2p.wb) (by rw [upd_ne hne]; exact e1) upd_same
end
end K3

set_option maxRecDepth 100000
set_option maxHeartbeats 16000000
/-! the law's order; the walk -/
namespace K3
open PySem hiding Tok code
open PySem.Spec PyProof.Rows GD K1
open L2 hiding rest
open K2 hiding Sp P
abbrev sLOrder : Stmt := topS 32
abbrev cWalk : Stmt := topS 9
abbrev mWInit : Stmt := inClass cWalk 0
abbrev mVisit : Stmt := inClass cWalk 1
/-- the answer of reach -/
def ResV (H : Hp) (v : V) : DR → Prop
  | .inl x => ∃ q, v = .ref q ∧ H q = some (.tup [.str "module", .str (S x)])
  | .inr s => ∃ q a, v = .ref q ∧ H q = some (.tup [.str "order", .ref a]) ∧ H a = some (.tup (sts s.2))
theorem unv_nil (ms : Mods) : unv ms [] ≤ ms.length := List.length_filter_le _ _
def allV (ms : Mods) (es : List NM) : DR := visL (vis ms 5) es ([], [])
theorem lk_past {k g : Str} {v : V} {r : List (Str × V)} (h : (k == g) = false) : List.lookup k ((g, v) :: r) = List.lookup k r := by simp only [List.lookup, h]
theorem lk_here {k : Str} {v : V} {r : List (Str × V)} : List.lookup k ((k, v) :: r) = some v := by simp [List.lookup]
theorem put_past {f g : Str} {v x : V} {r : List (Str × V)} (h : ¬ g = f) : putF f v ((g, x) :: r) = (g, x) :: putF f v r := if_neg h
def wF (dm av ac : Addr) : List (Str × V) := [("modules", .ref dm), ("visited", .ref av), ("completed", .ref ac)]
theorem wF_m (dm av ac : Addr) : (wF dm av ac).lookup ("modules" : Str) = some (.ref dm) := lk_here
theorem wF_v (dm av ac : Addr) : (wF dm av ac).lookup ("visited" : Str) = some (.ref av) := (lk_past (by decide +kernel)).trans lk_here
theorem wF_c (dm av ac : Addr) : (wF dm av ac).lookup ("completed" : Str) = some (.ref ac) := (lk_past (by decide +kernel)).trans ((lk_past (by decide +kernel)).trans lk_here)
theorem wF_no (dm av ac : Addr) : (wF dm av ac).lookup ("visit" : Str) = none := (lk_past (by decide +kernel)).trans ((lk_past (by decide +kernel)).trans ((lk_past (by decide +kernel)).trans rfl))
theorem wF_new (dm av ac : Addr) : putF "completed" (.ref ac) (putF "visited" (.ref av) (putF "modules" (.ref dm) [])) = wF dm av ac := by
  have e1 : putF "modules" (.ref dm) [] = [(("modules" : Str), V.ref dm)] := rfl
  have e2 : putF "visited" (.ref av) [(("modules" : Str), V.ref dm)] = [(("modules" : Str), V.ref dm), ("visited", .ref av)] := put_past (by decide +kernel)
  have e3 : putF "completed" (.ref ac) [(("modules" : Str), V.ref dm), ("visited", .ref av)] = wF dm av ac := (put_past (by decide +kernel)).trans (congrArg _ (put_past (by decide +kernel)))
  rw [e1, e2, e3]
structure TxW (K : PySem.W.Frag) (mg : Str → Option Value) (C : Addr) : Prop where
  cl : Cls K C
  nM : NoAttr K C "modules"
  nV : NoAttr K C "visited"
  nC : NoAttr K C "completed"
  gW : mg "Walk" = some (.ref C)
/-- a dict of what was visited -/
structure VS (kvs : List (Key × V)) (s : List NM) : Prop where
  v : ∀ n, (valV kvs (.inr (S n))).isSome = decide (n ∈ s)
  l : kvs.length ≤ s.length
theorem VS.put {kvs : List (Key × V)} {s : List NM} (h : VS kvs s) (m : NM) (v : V) : VS (putK kvs (.inr (S m)) v) (s ++ [m]) where
  v := fun n => by
    rw [valV_put]
    by_cases e : n = m
    · rw [e, if_pos rfl]; simp
    · rw [if_neg (fun z => e (by injection z with z; exact S_inj z)), h.v n]
      simp [e]
  l := by
    have := length_putK kvs (.inr (S m)) v
    have := h.l
    rw [List.length_append, List.length_singleton]
    omega
section
variable {P : Program} {w : World} {K : PySem.W.Frag} {mg : Str → Option Value} {base : Heap}
theorem no_lvis {vs : List V} {H : Hp} {Q : VK} {E : XK} (h : spLVis 0 vs H Q E) : False := by
  obtain ⟨dm, mo, sn, od, ms, s, _, _, _, _, _, h, _⟩ := h
  exact Nat.not_lt_zero _ h
theorem ok_lvis {f : Addr} {fd : FuncData} (F : Fun K "_law_visit" "_law_visit" sLVisit f fd) (m : mg "_law_visit" = some (.ref f)) (kp : PySem.W.keepIn K (.ref f) = true) (bi : Binds K fd ["modules", "name", "seen", "order"] []) :
    ∀ k, FnOk P w K mg base CX0 (1 + k) f fd ["modules", "name", "seen", "order"] (spLVis k)
  | 0 => ⟨fun vs H Q E h => (no_lvis h).elim, fun A outer s H args us vs Q E hr e b v h => (no_lvis h).elim⟩
  | k + 1 => ok_lvis1 F m kp bi (ok_lvis F m kp bi k)
def spOrd : L2.Sp := fun vs H Q _ => ∃ (dm e : Addr) (ms : Mods) (es : List NM), vs = [.ref dm, .ref e] ∧ MD H dm ms ∧ ms.length ≤ 4 ∧ H e = some (.tup (sts es)) ∧ ∀ H' v, Same H H' → ResV H' v (allV ms es) → Q v H'
theorem scLOrder : FnScope ["modules", "entries", "order", "seen", "name", "missing"] ["modules", "entries"] (defScope sLOrder) := ⟨rfl, rfl, rfl, by decide +kernel, rfl, by decide +kernel, by decide +kernel⟩
theorem K2p.same {a b : Addr} {H H1 H2 : Hp} (s : Same H H1) (k : K2p a b H1 H2) (na : H a = none) (nb : H b = none) : Same H H2 := fun q o h => k q o (ne_of_none h na) (ne_of_none h nb) (s q o h)
theorem ok_lorder {f f1 : Addr} {fd fd1 : FuncData} (F : Fun K "_law_order" "_law_order" sLOrder f fd) (T2 : Txt2 mg) (FV : FO P w K mg base CX0 6 "_law_visit" ["modules", "name", "seen", "order"] (spLVis 5) f1 fd1) : FnOk P w K mg base CX0 7 f fd ["modules", "entries"] spOrd := by
  have sc := scLOrder
  refine F.ok sc (fun vs H Q E h => ?_) (fun cdv A outer s H vs Q E hr h => ?_)
  · obtain ⟨dm, e, ms, es, rfl, _⟩ := h
    rfl
  · obtain ⟨dm, e, ms, es, rfl, hM, h4, he, ret⟩ := h
    refine ⟨_, (pss_cons (ps_set (i := 2) sc.nd rfl (Or.inl rfl) (pe_lst pa_nil))
      (pss_cons (ps_set (i := 3) sc.nd rfl (Or.inl rfl) (pe_lst pa_nil))
      (pss_cons (ps_for PassesOwn.never rfl (pi_tup (pv 1)) (pg_name (i := 4) sc.nd rfl (Or.inl rfl))
      (pss_cons (ps_set (i := 5) sc.nd rfl (Or.inl rfl) (pe_call FV.ok hr (by rfl) FV.m FV.kp FV.b .nil pass0 (pa_cons (pv 0) (pa_cons (pv 4) (pa_cons (pv 3) (pa_cons (pv 2) pa_nil))))))
      (pss_one (ps_if (pt_cmpR op_notN (pv 5) pe_non (nomark _))
      (pss_one (ps_ret (pe_tup (pa_cons pe_str (pa_cons (pv 5) pa_nil)))))
      pss_nil))))
      (pss_one (ps_ret (pe_tup (pa_cons pe_str (pa_cons (pe_callTy call_tuple_of (by rfl) T2.btuple (by decide +kernel) (pa_cons (pv 2) pa_nil)) pa_nil)))))))), ?_⟩
    have u0 : unv ms [] ≤ 4 := Nat.le_trans (unv_nil ms) h4
    refine ⟨Nat.zero_le _, fun od nod => ⟨Nat.zero_le _, fun sn nsn => ?_⟩⟩
    have s0 : Same H (upd (upd H od (.lst [])) sn (.lst [])) := Same.up (Same.up (Same.refl H) nod) nsn
    have hne : sn ≠ od := fun z => by rw [z, upd_same] at nsn; cases nsn
    have nsn0 : H sn = none := by rw [upd_ne hne] at nsn; exact nsn
    refine ⟨_, rfl, e, rfl, ⟨_, SqT.of (s0 _ _ he)⟩, for_tup (K := K) (a := e) (xs := sts es) (fun i σ H' => ∃ (y4 y5 : Option V) (s : DS), σ = [some (.ref dm), some (.ref e), some (.ref od), some (.ref sn), y4, y5] ∧ Same H H' ∧ H' sn = some (.lst (sts s.1)) ∧ H' od = some (.lst (sts s.2)) ∧ Le ms ([], []) s ∧ allV ms es = visL (vis ms 5) (es.drop i) s)
      ⟨none, none, ([], []), rfl, s0, upd_same, by rw [upd_ne hne.symm]; exact upd_same, Le.refl _ _, rfl⟩ (fun i σ H' _ ⟨_, _, _, _, s, _⟩ => SqT.of (s _ _ he)) ?_ ?_⟩
    · rintro i x σ H1 hx ⟨y4, y5, s, rfl, s1, e1, e2, le, ev⟩
      rw [List.getElem?_map, Option.map_eq_some_iff] at hx
      obtain ⟨t, ht, rfl⟩ := hx
      obtain ⟨hi, ht'⟩ := List.getElem?_eq_some_iff.mp ht
      rw [List.drop_eq_getElem_cons hi, ht'] at ev
      simp only [visL] at ev
      have le0 := le
      obtain ⟨l1, l2, l3⟩ := le
      simp only [List.length_nil] at l1 l2 l3
      refine ⟨_, rfl, _, rfl, _, rfl, _, rfl, dm, t, sn, od, ms, s, rfl, hM.same s1, hne, e1, e2, by omega, by omega, by omega, fun x H' hx kx => ?_, fun s' H' hx kx f1 f2 => ?_⟩
      · rw [hx] at ev
        refine ⟨_, rfl, rfl, _, rfl, iteT ⟨_, rfl, two_le, fun p np => ret _ _ (Same.up (K2p.same s1 kx nsn0 nod) np) ?_⟩⟩
        rw [ev]
        exact ⟨p, rfl, upd_same⟩
      · rw [hx] at ev
        exact ⟨_, rfl, rfl, _, rfl, iteF ⟨_, _, s', rfl, K2p.same s1 kx nsn0 nod, f1, f2, le0.trans (vis_le _ _ _ _ hx), ev⟩⟩
    · rintro σ H1 ⟨y4, y5, s, rfl, s1, e1, e2, le, ev⟩
      have hd : es.drop (sts es).length = [] := by rw [List.length_map]; exact List.drop_length ..
      rw [hd] at ev
      refine ⟨_, rfl, od, _, rfl, .inl ⟨SqL.of e2, fun p np => ⟨two_le, fun p9 np9 => ret _ _ (Same.up (Same.up s1 np) np9) ?_⟩⟩⟩
      rw [ev]
      exact ⟨p9, p, rfl, upd_same, by rw [upd_ne (fun z => by rw [z, upd_same] at np9; cases np9)]; exact upd_same⟩
end
end K3

set_option maxRecDepth 100000
set_option maxHeartbeats 16000000
/-! the walk's methods -/
namespace K3
open PySem hiding Tok code
open PySem.Spec PyProof.Rows GD K1
open L2 hiding rest
open K2 hiding Sp P
section
variable {P : Program} {w : World} {K : PySem.W.Frag} {mg : Str → Option Value} {base : Heap} {C : Addr}
def spWInit (C : Addr) : L2.Sp := fun vs H Q _ => ∃ p dx dm, vs = [.ref p, .ref dm] ∧ H p = some (.ins C dx []) ∧
  ∀ H' av ac, H' p = some (.ins C dx (wF dm av ac)) → H' av = some (.dK []) → H' ac = some (.lst []) → (∀ b o, b ≠ p → H b = some o → H' b = some o) → H av = none → H ac = none → Q .non H'
theorem scWInit : FnScope ["self", "modules"] ["self", "modules"] (defScope mWInit) := ⟨rfl, rfl, rfl, by decide +kernel, rfl, by decide +kernel, by decide +kernel⟩
theorem ok_winit {f : Addr} {fd : FuncData} (F : Fun K "__init__" "Walk.__init__" mWInit f fd) (W : TxW K mg C) : FnOk P w K mg base CX0 1 f fd ["self", "modules"] (spWInit C) := by
  have sc := scWInit
  refine F.ok sc (fun vs H Q E h => ?_) (fun cdv A outer s H vs Q E hr h => ?_)
  · obtain ⟨p, dx, dm, rfl, _⟩ := h
    rfl
  · obtain ⟨p, dx, dm, rfl, hp, q⟩ := h
    refine ⟨_, (pss_cons (ps_fld (pv 0) (pv 1) rfl)
      (pss_cons (ps_fld (pv 0) pe_dnewK rfl)
      (pss_one (ps_fld (pv 0) (pe_lst pa_nil) rfl)))), ?_⟩
    refine ⟨_, rfl, _, rfl, p, C, dx, _, rfl, hp, W.cl, W.nM, (by show 0 < 1000; decide), fun av nav => ?_⟩
    have nvp : av ≠ p := fun z => by rw [z, upd_same] at nav; cases nav
    have nv0 : H av = none := by rw [upd_ne nvp] at nav; exact nav
    refine ⟨_, rfl, p, C, dx, _, rfl, by rw [upd_ne nvp.symm]; exact upd_same, W.cl, W.nV, (by show 1 < 1000; decide), ?_⟩
    refine ⟨Nat.zero_le _, fun ac nac => ?_⟩
    have ncp : ac ≠ p := fun z => by rw [z, upd_same] at nac; cases nac
    have ncv : ac ≠ av := fun z => by rw [z, upd_ne nvp, upd_same] at nac; cases nac
    have nc0 : H ac = none := by rw [upd_ne ncp, upd_ne ncv, upd_ne ncp] at nac; exact nac
    refine ⟨_, rfl, p, C, dx, _, rfl, by rw [upd_ne ncp.symm]; exact upd_same, W.cl, W.nC, (by show 2 < 1000; decide), ?_⟩
    refine q _ av ac ?_ ?_ ?_ (fun b o nb hb => ?_) nv0 nc0
    · rw [upd_same]; exact congrArg (fun q => some (HO.ins C dx q)) (wF_new dm av ac)
    · rw [upd_ne nvp, upd_ne ncv.symm, upd_ne nvp]; exact upd_same
    · rw [upd_ne ncp]; exact upd_same
    · have b1 := ne_of_none hb nv0
      have b2 := ne_of_none hb nc0
      rw [upd_ne nb, upd_ne b2, upd_ne nb, upd_ne b1, upd_ne nb]; exact hb
def spWVis (C : Addr) (k : Nat) : L2.Sp := fun vs H Q _ => ∃ (p : Addr) (m : NM) (dx dm av ac : Addr) (ms : Mods) (s : DS) (kvs : List (Key × V)), vs = [.ref p, .str (S m)] ∧ H p = some (.ins C dx (wF dm av ac)) ∧ MD H dm ms ∧ dm ≠ av ∧ H av = some (.dK kvs) ∧ VS kvs s.1 ∧ H ac = some (.lst (sts s.2)) ∧
  unv ms s.1 < k ∧ s.1.length + unv ms s.1 ≤ 100 ∧ s.2.length + unv ms s.1 ≤ 100 ∧ (∀ x H', vis ms k m s = .inl x → K2p av ac H H' → Q (.str (S x)) H') ∧
  ∀ s' H' kvs', vis ms k m s = .inr s' → K2p av ac H H' → H' av = some (.dK kvs') → VS kvs' s'.1 → H' ac = some (.lst (sts s'.2)) → Q .non H'
theorem scVisit : FnScope ["self", "module", "line", "missing"] ["self", "module"] (defScope mVisit) := ⟨rfl, rfl, rfl, by decide +kernel, rfl, by decide +kernel, by decide +kernel⟩
theorem ok_wvis1 {k : Nat} {f aO : Addr} {fd : FuncData} (F : Fun K "visit" "Walk.visit" mVisit f fd) (W : TxW K mg C) (gO : mg "LISTING" = some (.ref aO)) (kO : ∀ H, SqT K H aO LISTv) (mt : Meth K C "visit" f) (bi : Binds K fd ["self", "module"] [])
    (FT : FnOk P w K mg base CX0 (1 + k) f fd ["self", "module"] (spWVis C k)) : FnOk P w K mg base CX0 (1 + k + 1) f fd ["self", "module"] (spWVis C (k + 1)) := by
  have sc := scVisit
  refine F.ok sc (fun vs H Q E h => ?_) (fun cdv A outer s H vs Q E hr h => ?_)
  · obtain ⟨p, mo, dx, dm, av, ac, ms, s, kvs, rfl, _⟩ := h
    rfl
  · obtain ⟨p, mo, dx, dm, av, ac, ms, s, kvs, rfl, hp, hM, hdv, hav, hV, hac, hk, hA, hB, qm, qr⟩ := h
    have npv : p ≠ av := fun z => by rw [z, hav] at hp; cases hp
    have npc : p ≠ ac := fun z => by rw [z, hac] at hp; cases hp
    have nvc : av ≠ ac := fun z => by rw [z, hac] at hav; cases hav
    have hdc : dm ≠ ac := fun z => by
      obtain ⟨kvs, e, _⟩ := hM
      rw [z, hac] at e; cases e
    have mdk : ∀ {H'}, K2p av ac H H' → MD H' dm ms := fun {H'} kk => by
      have kt := K2p.tup kk hav hac (fun _ e => by cases e) (fun _ e => by cases e)
      obtain ⟨kvs, e, r⟩ := hM
      exact ⟨kvs, kk _ _ hdv hdc e, r.imp kt⟩
    refine ⟨_, (pss_cons (ps_if (pt_cmp (pc_din (hu_of hr) (pv 1) (pe_fld (pv 0) rfl)))
      (pss_one (ps_ret pe_non))
      pss_nil)
      (pss_cons (ps_if (pt_cmp (pc_dnotin (hu_of hr) (pv 1) (pe_fld (pv 0) rfl)))
      (pss_one (ps_ret (pv 1)))
      pss_nil)
      (pss_cons (ps_dput (hu_of hr) (pe_fld (pv 0) rfl) (pv 1) pe_bl rfl)
      (pss_cons (ps_for PassesOwn.never rfl (pi_tup (pe_dget (hu_of hr) (pe_fld (pv 0) rfl) (pv 1) (fun _ _ => rfl))) (pg_name (i := 2) sc.nd rfl (Or.inl rfl))
      (pss_cons (ps_set (i := 3) sc.nd rfl (Or.inl rfl) (pe_ifExp (pt_cmpR op_in_seq (pe_ix ix_tup (pv 2) pe_int (fun _ _ => rfl)) (pe_glob (v := .ref aO) rfl gO rfl) rfl) (pe_meth (pv 0) W.cl mt FT hr bi .nil pass0 (pa_cons (pe_ix ix_tup (pv 2) pe_int (fun _ _ => rfl)) pa_nil)) pe_non))
      (pss_one (ps_if (pt_cmpR op_notN (pv 3) pe_non (nomark _))
      (pss_one (ps_ret (pv 3)))
      pss_nil))))
      (pss_cons (ps_expr (pe_bm PySem.F.plainAttrs_list PySem.F.slot_list_append PySem.F.type_list_append mt_append (pe_fld (pv 0) rfl) (pa_cons (pv 1) pa_nil)))
      (pss_one (ps_ret pe_non))))))), ?_⟩
    refine ⟨_, rfl, _, rfl, p, C, dx, _, .ref av, rfl, hp, W.cl, W.nV, wF_v .., av, _, rfl, DGet.k (k := .inr (S mo)) hav, ?_⟩
    rw [hV.v mo]
    refine ⟨_, rfl, ite2 (fun hc => ?_) (fun hc => ?_)⟩
    · have hc : mo ∈ s.1 := by simpa using hc
      exact qr s H kvs (by rw [vis, if_pos hc]) (K2p.refl _ _ _) hav hV hac
    · have hc : mo ∉ s.1 := by simpa using hc
      obtain ⟨o, g1, g2, g3⟩ := kk_in hM mo
      refine ⟨_, rfl, _, rfl, p, C, dx, _, .ref dm, rfl, hp, W.cl, W.nM, wF_m .., dm, o, rfl, g1, ?_⟩
      rw [g2]
      refine ⟨_, rfl, ite2 (fun hc2 => ?_) (fun hc2 => ?_)⟩
      · have hn : mget ms mo = none := by simpa using hc2
        exact ⟨_, rfl, qm mo _ (by rw [vis, if_neg hc, hn]) (K2p.refl _ _ _)⟩
      · have hs : (mget ms mo).isSome = true := by
          cases h : mget ms mo with
          | none => rw [h] at hc2; exact absurd rfl hc2
          | some _ => rfl
        obtain ⟨ls, els⟩ := Option.isSome_iff_exists.mp hs
        have ua := unv_add hc els
        have hv : ∀ r, visL (vis ms k) (tgs ls) (s.1 ++ [mo], s.2) = r → vis ms (k + 1) mo s = match r with | .inl x => .inl x | .inr s' => .inr (s'.1, s'.2 ++ [mo]) := fun r hr => by
          rw [vis, if_neg hc, els]
          simp only [hr]
          all_goals (cases r <;> rfl)
        have kl := hV.l
        have k1 : K2p av ac H (upd H av (.dK (putK kvs (.inr (S mo)) (.bl true)))) := K2p.wa
        have kt1 := K2p.tup k1 hav hac (fun _ e => by cases e) (fun _ e => by cases e)
        refine ⟨_, rfl, p, C, dx, _, .ref av, rfl, hp, W.cl, W.nV, wF_v .., _, rfl, av, _, rfl, DPut.k (k := .inr (S mo)) hav (szl (by omega)), ?_⟩
        obtain ⟨o', g1', g2', g3'⟩ := kk_in (mdk k1) mo
        obtain ⟨q, vs, rfl, g4, g5⟩ := g3' ls els
        refine ⟨_, rfl, p, C, dx, _, .ref dm, rfl, k1 _ _ npv npc hp, W.cl, W.nM, wF_m .., _, rfl, dm, .ref q, rfl, g1', q, rfl, ⟨_, SqT.of g4⟩, for_tup (K := K) (a := q) (xs := vs) (fun i σ H' => ∃ (y2 y3 : Option V) (s1 : DS) (kvs1 : List (Key × V)), σ = [some (.ref p), some (.str (S mo)), y2, y3] ∧ K2p av ac H H' ∧ (∀ q xs, upd H av (.dK (putK kvs (.inr (S mo)) (.bl true))) q = some (.tup xs) → H' q = some (.tup xs)) ∧ H' av = some (.dK kvs1) ∧ VS kvs1 s1.1 ∧ H' ac = some (.lst (sts s1.2)) ∧
            Le ms (s.1 ++ [mo], s.2) s1 ∧ visL (vis ms k) (tgs ls) (s.1 ++ [mo], s.2) = visL (vis ms k) (tgs (ls.drop i)) s1)
          ⟨none, none, (s.1 ++ [mo], s.2), _, rfl, k1, fun _ _ h => h, upd_same, hV.put mo _, by rw [upd_ne nvc.symm]; exact hac, Le.refl _ _, rfl⟩ (fun i σ H' _ ⟨_, _, _, _, _, _, kt, _⟩ => SqT.of (kt _ _ g4)) ?_ ?_⟩
        · rintro i x σ H1 hx ⟨y2, y3, s1, kvs1, rfl, kk, kt, e1, V1, e2, le, ev⟩
          obtain ⟨l, el, lv⟩ := pairGetR g5 hx
          have lv' := LV.imp kt lv
          obtain ⟨q5, xs, rfl, c1, c2⟩ := lv'.hd
          have hin : (if false = true then !inV (.str (lnW l)) LISTv else inV (.str (lnW l)) LISTv) = (lnT l).isSome := list_in l
          refine ⟨_, rfl, q5, _, _, _, rfl, rfl, SqT.of c1, atI_nat (j := 0) rfl, aO, LISTv, rfl, .inr (kO _), rfl, by decide, _, rfl, ite2 (fun hc3 => ?_) (fun hc3 => ?_)⟩
          · rw [hin] at hc3
            obtain ⟨t, et⟩ := Option.isSome_iff_exists.mp hc3
            have ht := lv'.tgt c1 et
            rw [tgs_drop el, et] at ev
            simp only [visL] at ev
            have le0 := le
            obtain ⟨l1, l2, l3⟩ := le
            simp only [List.length_append, List.length_singleton] at l1 l2 l3
            refine ⟨_, rfl, p, dx, _, rfl, kk _ _ npv npc hp, wF_no .., _, rfl, q5, _, _, _, rfl, rfl, SqT.of c1, atI_nat (j := 2) ht, p, t, dx, dm, av, ac, ms, s1, kvs1, rfl, kk _ _ npv npc hp, mdk kk, hdv, e1, V1, e2, by omega, by omega, by omega, fun x H' hx kx => ?_, fun s' H' kvs' hx kx f1 V' f2 => ?_⟩
            · rw [hx] at ev
              exact ⟨_, rfl, rfl, _, rfl, iteT ⟨_, rfl, qm x _ (hv _ ev) (kk.trans kx)⟩⟩
            · rw [hx] at ev
              refine ⟨_, rfl, rfl, _, rfl, iteF ?_⟩
              have kt2 := K2p.tup kx e1 e2 (fun _ e => by cases e) (fun _ e => by cases e)
              exact ⟨_, _, s', kvs', rfl, kk.trans kx, fun q xs h => kt2 _ _ (kt _ _ h), f1, V', f2, le0.trans (vis_le _ _ _ _ hx), ev⟩
          · have hn : lnT l = none := by rw [hin] at hc3; simpa using hc3
            rw [tgs_drop el, hn] at ev
            exact ⟨_, rfl, rfl, _, rfl, iteF ⟨_, _, s1, kvs1, rfl, kk, kt, e1, V1, e2, le, ev⟩⟩
        · rintro σ H1 ⟨y2, y3, s1, kvs1, rfl, kk, kt, e1, V1, e2, le, ev⟩
          have hd : ls.drop vs.length = [] := by rw [Paired.length g5]; exact List.drop_length ..
          rw [hd] at ev
          obtain ⟨l1, l2, l3⟩ := le
          simp only [List.length_append, List.length_singleton] at l1 l2 l3
          refine ⟨_, rfl, p, C, dx, _, .ref ac, rfl, kk _ _ npv npc hp, W.cl, W.nC, wF_c .., .inl ⟨rfl, _, SqL.of e2⟩, _, rfl, ac, _, _, rfl, rfl, e2, szl (by rw [List.length_map]; omega), ?_⟩
          rw [snoc_str]
          exact qr (s1.1, s1.2 ++ [mo]) _ kvs1 (hv _ ev) (kk.trans K2p.wb) (by rw [upd_ne nvc]; exact e1) V1 upd_same
theorem no_wvis {vs : List V} {H : Hp} {Q : VK} {E : XK} (h : spWVis C 0 vs H Q E) : False := by
  obtain ⟨p, mo, dx, dm, av, ac, ms, s, kvs, _, _, _, _, _, _, _, h, _⟩ := h
  exact Nat.not_lt_zero _ h
theorem ok_wvis {f aO : Addr} {fd : FuncData} (F : Fun K "visit" "Walk.visit" mVisit f fd) (W : TxW K mg C) (gO : mg "LISTING" = some (.ref aO)) (kO : ∀ H, SqT K H aO LISTv) (mt : Meth K C "visit" f) (bi : Binds K fd ["self", "module"] []) :
    ∀ k, FnOk P w K mg base CX0 (1 + k) f fd ["self", "module"] (spWVis C k)
  | 0 => ⟨fun vs H Q E h => (no_wvis h).elim, fun A outer s H args us vs Q E hr e b v h => (no_wvis h).elim⟩
  | k + 1 => ok_wvis1 F W gO kO mt bi (ok_wvis F W gO kO mt bi k)
abbrev sReach : Stmt := topS 10
theorem scReach : FnScope ["modules", "entries", "walk", "module", "missing"] ["modules", "entries"] (defScope sReach) := ⟨rfl, rfl, rfl, by decide +kernel, rfl, by decide +kernel, by decide +kernel⟩
theorem ok_reach {f f0 f1 : Addr} {fd fd0 fd1 : FuncData} (F : Fun K "reach" "reach" sReach f fd) (T2 : Txt2 mg) (W : TxW K mg C) (M : Mk K C f0) (b0 : Binds K fd0 ["self", "modules"] []) (O0 : FnOk P w K mg base CX0 1 f0 fd0 ["self", "modules"] (spWInit C))
    (mt : Meth K C "visit" f1) (bi : Binds K fd1 ["self", "module"] []) (FV : FnOk P w K mg base CX0 6 f1 fd1 ["self", "module"] (spWVis C 5)) : FnOk P w K mg base CX0 7 f fd ["modules", "entries"] spOrd := by
  have sc := scReach
  refine F.ok sc (fun vs H Q E h => ?_) (fun cdv A outer s H vs Q E hr h => ?_)
  · obtain ⟨dm, e, ms, es, rfl, _⟩ := h
    rfl
  · obtain ⟨dm, e, ms, es, rfl, hM, h4, he, ret⟩ := h
    have hr2 : Room 2 _ := hr.mono (by decide)
    refine ⟨_, (pss_cons (ps_set (i := 2) sc.nd rfl (Or.inl rfl) (pe_make M O0 hr2 rfl W.gW b0 .nil pass0 (pa_cons (pv 0) pa_nil)))
      (pss_cons (ps_for PassesOwn.never rfl (pi_tup (pv 1)) (pg_name (i := 3) sc.nd rfl (Or.inl rfl))
      (pss_cons (ps_set (i := 4) sc.nd rfl (Or.inl rfl) (pe_meth (pv 2) W.cl mt FV hr bi .nil pass0 (pa_cons (pv 3) pa_nil)))
      (pss_one (ps_if (pt_cmpR op_notN (pv 4) pe_non (nomark _))
      (pss_one (ps_ret (pe_tup (pa_cons pe_str (pa_cons (pv 4) pa_nil)))))
      pss_nil))))
      (pss_one (ps_ret (pe_tup (pa_cons pe_str (pa_cons (pe_callTy call_tuple_of (by rfl) T2.btuple (by decide +kernel) (pa_cons (pe_fld (pv 2) rfl) pa_nil)) pa_nil))))))), ?_⟩
    have u0 : unv ms [] ≤ 4 := Nat.le_trans (unv_nil ms) h4
    refine ⟨_, rfl, fun x dx nx ndx nex => ?_⟩
    have old : ∀ b o, H b = some o → upd (upd H dx (.own x)) x (.ins C dx []) b = some o := fun b o hb => by rw [upd_ne (ne_of_none hb nx), upd_ne (ne_of_none hb ndx)]; exact hb
    refine ⟨x, dx, dm, rfl, upd_same, fun H2 av ac g1 g2 g3 k2 nav nac => ⟨rfl, ?_⟩⟩
    have s0 : Same H H2 := fun b o hb => k2 b o (ne_of_none hb nx) (old b o hb)
    have nav0 : H av = none := by
      cases z : H av with
      | none => rfl
      | some o => rw [old _ _ z] at nav; cases nav
    have nac0 : H ac = none := by
      cases z : H ac with
      | none => rfl
      | some o => rw [old _ _ z] at nac; cases nac
    have hdv : dm ≠ av := by
      obtain ⟨kvs, ek, _⟩ := hM
      exact ne_of_none ek nav0
    have nxv : x ≠ av := fun z => by rw [z, g2] at g1; cases g1
    have nxc : x ≠ ac := fun z => by rw [z, g3] at g1; cases g1
    refine ⟨_, rfl, e, rfl, ⟨_, SqT.of (s0 _ _ he)⟩, for_tup (K := K) (a := e) (xs := sts es) (fun i σ H' => ∃ (y3 y4 : Option V) (s : DS) (kvs : List (Key × V)), σ = [some (.ref dm), some (.ref e), some (.ref x), y3, y4] ∧ Same H H' ∧ H' x = some (.ins C dx (wF dm av ac)) ∧ H' av = some (.dK kvs) ∧ VS kvs s.1 ∧ H' ac = some (.lst (sts s.2)) ∧ Le ms ([], []) s ∧ allV ms es = visL (vis ms 5) (es.drop i) s)
      ⟨none, none, ([], []), [], rfl, s0, g1, g2, ⟨fun n => rfl, Nat.le_refl _⟩, g3, Le.refl _ _, rfl⟩ (fun i σ H' _ ⟨_, _, _, _, _, s, _⟩ => SqT.of (s _ _ he)) ?_ ?_⟩
    · rintro i y σ H1 hx ⟨y3, y4, s, kvs, rfl, s1, ex, e1, V1, e2, le, ev⟩
      rw [List.getElem?_map, Option.map_eq_some_iff] at hx
      obtain ⟨t, ht, rfl⟩ := hx
      obtain ⟨hi, ht'⟩ := List.getElem?_eq_some_iff.mp ht
      rw [List.drop_eq_getElem_cons hi, ht'] at ev
      simp only [visL] at ev
      have le0 := le
      obtain ⟨l1, l2, l3⟩ := le
      simp only [List.length_nil] at l1 l2 l3
      refine ⟨_, rfl, x, dx, _, rfl, ex, wF_no .., _, rfl, x, t, dx, dm, av, ac, ms, s, kvs, rfl, ex, hM.same s1, hdv, e1, V1, e2, by omega, by omega, by omega, fun z H' hz kx => ?_, fun s' H' kvs' hz kx f1 V' f2 => ?_⟩
      · rw [hz] at ev
        refine ⟨_, rfl, rfl, _, rfl, iteT ⟨_, rfl, two_le, fun p np => ret _ _ (Same.up (K2p.same s1 kx nav0 nac0) np) ?_⟩⟩
        rw [ev]
        exact ⟨p, rfl, upd_same⟩
      · rw [hz] at ev
        exact ⟨_, rfl, rfl, _, rfl, iteF ⟨_, _, s', kvs', rfl, K2p.same s1 kx nav0 nac0, kx _ _ nxv nxc ex, f1, V', f2, le0.trans (vis_le _ _ _ _ hz), ev⟩⟩
    · rintro σ H1 ⟨y3, y4, s, kvs, rfl, s1, ex, e1, V1, e2, le, ev⟩
      have hd : es.drop (sts es).length = [] := by rw [List.length_map]; exact List.drop_length ..
      rw [hd] at ev
      refine ⟨_, rfl, x, C, dx, _, .ref ac, rfl, ex, W.cl, W.nC, wF_c .., ac, _, rfl, .inl ⟨SqL.of e2, fun p np => ⟨two_le, fun p9 np9 => ret _ _ (Same.up (Same.up s1 np) np9) ?_⟩⟩⟩
      rw [ev]
      exact ⟨p9, p, rfl, upd_same, by rw [upd_ne (fun z => by rw [z, upd_same] at np9; cases np9)]; exact upd_same⟩
end
end K3

set_option maxRecDepth 100000
set_option maxHeartbeats 16000000
/-! alike, with None -/
namespace K3
open PySem hiding Tok code
open PySem.Spec PyProof.Rows GD K1
open L2 hiding rest
open K2 hiding Sp P
theorem cr_reprN {X : Cx} (hgd : X.A.guards = some []) (hu : X.A.units + 64 < cLine) : CallR X (.builtin "repr") (fun xs H Q => (xs = [.non] ∧ Q (.str "None") H) ∨ ∃ (v : V) (d : PyData), xs = [v] ∧ Dp X.K H v d ∧ d ≠ .none ∧
    d.showable = true ∧ d.hasDict = false ∧ d.depth ≤ 60 ∧ d.shown.length ≤ sizeLine ∧ Q (.str d.shown) H) := by
  intro pins s σ H xs us Q I r h
  rcases h with ⟨rfl, q⟩ | h
  · obtain ⟨u, rfl, ru⟩ := vals1 r
    obtain rfl : u = Value.none := ru
    exact PySem.P.repr_of_none ⟨.str _, H, I.tok _, ⟨_, rfl⟩, q⟩
  · exact cr_repr hgd hu pins s σ H xs us Q I r h
/-- two values that are shown alike -/
def Alk (K : PySem.W.Frag) (H : Hp) (x y : V) : Prop := (x = .non ∧ y = .non) ∨ ∃ d, Dp K H x d ∧ Dp K H y d ∧ d ≠ .none ∧ d.showable = true ∧ d.hasDict = false ∧ d.depth ≤ 60 ∧ d.shown.length ≤ sizeLine
def smL : Ln → Prop
  | .lt _ x t => smN x ∧ Dr 3 t
  | .fn f ps t => smN f ∧ ps.length ≤ 2 ∧ (∀ p ∈ ps, smN p) ∧ Dr 3 t
  | _ => False
def lineD : Ln → PyData
  | .lst w ps m => .none
  | .lt k x t => .tuple [.str (lnW (.lt k x t)), .str (S x), treeD t]
  | .fn f ps t => .tuple [.str "fn", .str (S f), .tuple (ps.map fun p => .str (S p)), treeD t]
  | .dw k t => .none
theorem smFit {x : NM} (h : smN x) : Fit (.str (S x)) 0 62 := Fit.strS (n := 6) h.1 h.2
theorem bT3 : bT 3 = 189168 := by decide +kernel
theorem lineFit : ∀ {l : Ln}, smL l → Fit (lineD l) 8 800000 ∧ lineD l ≠ .none
  | .lst _ _ _, h => h.elim
  | .dw _ _, h => h.elim
  | .lt k x t, ⟨h1, h2⟩ => by
    refine ⟨?_, fun e => by cases e⟩
    have f2 := dr_fit h2
    rw [bT3] at f2
    refine (Fit.tup (k := 7) (B := 189168) (mem3 ?_ ((smFit h1).more (Nat.zero_le _) (by omega)) f2)).more (Nat.le_refl _) (by simp only [List.length_cons, List.length_nil]; omega)
    cases k with
    | false => exact (litFit "let" (by decide +kernel)).more (Nat.zero_le _) (by omega)
    | true => exact (litFit "keep" (by decide +kernel)).more (Nat.zero_le _) (by omega)
  | .fn f ps t, ⟨h1, hl, h3, h2⟩ => by
    refine ⟨?_, fun e => by cases e⟩
    have f2 := dr_fit h2
    rw [bT3] at f2
    refine (Fit.tup (k := 7) (B := 189168) (mem4 ((litFit "fn" (by decide +kernel)).more (Nat.zero_le _) (by omega)) ((smFit h1).more (Nat.zero_le _) (by omega)) ?_ f2)).more (Nat.le_refl _) (by simp only [List.length_cons, List.length_nil]; omega)
    refine (Fit.tup (k := 0) (B := 62) fun d hd => ?_).more (by omega) (by
      rw [List.length_map]
      have : ps.length * (62 + 2) ≤ 2 * 64 := Nat.mul_le_mul_right _ hl
      omega)
    obtain ⟨p, hp, rfl⟩ := List.mem_map.mp hd
    exact smFit (h3 p hp)
theorem strs_dp {K : PySem.W.Frag} {H : Hp} : ∀ ps : List NM, DpAll K H (ps.map fun l => V.str (S l)) (ps.map fun p => .str (S p))
  | [] => .nil
  | p :: ps => .cons (.str _) (strs_dp ps)
theorem LV.dp {K : PySem.W.Frag} {H : Hp} {v : V} : ∀ {l : Ln}, smL l → LV H v l → Dp K H v (lineD l)
  | .lst _ _ _, h, _ => h.elim
  | .dw _ _, h, _ => h.elim
  | .lt k x t, _, ⟨q, u, e, h1, h2⟩ => by subst e; exact .tup (SqT.of h1) (.cons (.str _) (.cons (.str _) (.cons (TV.dp t u h2) .nil)))
  | .fn f ps t, _, ⟨q, r, u, e, h1, h2, h3⟩ => by subst e; exact .tup (SqT.of h1) (.cons (.str _) (.cons (.str _) (.cons (.tup (SqT.of h2) (strs_dp ps)) (.cons (TV.dp t u h3) .nil))))
theorem alk_opt {K : PySem.W.Frag} {H : Hp} {α : Type} {R : V → α → Prop} {D : α → PyData} {v u : V} {o : Option α} (hv : optV H R v o) (hu : optV H R u o) (hd : ∀ x v, o = some x → R v x → Dp K H v (D x)) (hf : ∀ x, o = some x → Fit (D x) 8 800000 ∧ D x ≠ .none) : Alk K H v u := by
  cases o with
  | none => exact .inl ⟨hv, hu⟩
  | some x =>
    obtain ⟨f, n⟩ := hf x rfl
    exact .inr ⟨_, hd x v rfl hv, hd x u rfl hu, alikeOk f n (by decide) (by decide)⟩
theorem alk_pl {K : PySem.W.Frag} {H : Hp} {v u : V} {o : Option Pl} (hv : optV H (PlV H) v o) (hu : optV H (PlV H) u o) (hf : ∀ x, o = some x → smP x) : Alk K H v u :=
  alk_opt hv hu (fun _ _ _ h => h.dp) fun x e => ⟨(plFit (hf x e)).more (by decide) (by decide), fun e => by cases e⟩
theorem alk_ln {K : PySem.W.Frag} {H : Hp} {v u : V} {o : Option Ln} (hv : optV H (LV H) v o) (hu : optV H (LV H) u o) (hf : ∀ x, o = some x → smL x) : Alk K H v u :=
  alk_opt hv hu (fun x _ e h => h.dp (hf x e)) fun x e => lineFit (hf x e)
def resD : DR → PyData
  | .inl x => .tuple [.str "module", .str (S x)]
  | .inr s => .tuple [.str "order", .tuple (s.2.map fun p => .str (S p))]
def smR : DR → Prop
  | .inl x => smN x
  | .inr s => s.2.length ≤ 4 ∧ ∀ x ∈ s.2, smN x
theorem alk_res {K : PySem.W.Frag} {H : Hp} {v u : V} : ∀ {r : DR}, ResV H v r → ResV H u r → smR r → Alk K H v u
  | .inl x, ⟨q, e, h⟩, ⟨q', e', h'⟩, hs => by
    subst e e'
    exact .inr ⟨.tuple [.str "module", .str (S x)], .tup (SqT.of h) (.cons (.str _) (.cons (.str _) .nil)), .tup (SqT.of h') (.cons (.str _) (.cons (.str _) .nil)), alikeOk (k := 1) (B := 132) ((Fit.tup (k := 0) (B := 62) (mem2 (litFit "module" (by decide +kernel)) (smFit hs))).more (by omega) (by simp only [List.length_cons, List.length_nil]; omega)) (fun e => by cases e) (by decide) (by decide)⟩
  | .inr s, ⟨q, a, e, h, k⟩, ⟨q', a', e', h', k'⟩, hs => by
    subst e e'
    refine .inr ⟨.tuple [.str "order", .tuple (s.2.map fun p => .str (S p))], .tup (SqT.of h) (.cons (.str _) (.cons (.tup (SqT.of k) (strs_dp _)) .nil)), .tup (SqT.of h') (.cons (.str _) (.cons (.tup (SqT.of k') (strs_dp _)) .nil)), alikeOk (k := 2) (B := 1000) ((Fit.tup (k := 1) (B := 300) (mem2 ((litFit "order" (by decide +kernel)).more (by omega) (by omega)) ?_)).more (by omega) (by simp only [List.length_cons, List.length_nil]; omega)) (fun e => by cases e) (by decide) (by decide)⟩
    refine (Fit.tup (k := 0) (B := 62) fun d hd => ?_).more (by omega) (by
      rw [List.length_map]
      have : s.2.length * (62 + 2) ≤ 4 * 64 := Nat.mul_le_mul_right _ hs.1
      omega)
    obtain ⟨p, hp, rfl⟩ := List.mem_map.mp hd
    exact smFit (hs.2 p hp)
section
variable {P : Program} {w : World} {K : PySem.W.Frag} {mg : Str → Option Value} {base : Heap}
def spAlk (K : PySem.W.Frag) : L2.Sp := fun vs H Q _ => ∃ (x y : V), vs = [x, y] ∧ Alk K H x y ∧ Q (.bl true) H
theorem ok_alk {f : Addr} {fd : FuncData} (F : Fun K "_law_alike" "_law_alike" sAlike f fd) (T : Txt K mg) : FnG P w K mg base CX0 1 f fd ["one", "two"] (spAlk K) := by
  have sc := scAlike
  refine okG F sc (fun vs H Q E h => ?_) (fun cdv A outer s H vs Q E hgd hr h => ?_)
  · obtain ⟨x, y, rfl, _⟩ := h
    rfl
  · obtain ⟨x, y, rfl, hA, q⟩ := h
    refine ⟨_, (pss_one (ps_ret (pe_cmpR op_eq (pe_callB (cr_reprN hgd hr.units) (by rfl) T.repr (by decide +kernel) (pa_cons (pv 0) pa_nil)) (pe_callB (cr_reprN hgd hr.units) (by rfl) T.repr (by decide +kernel) (pa_cons (pv 1) pa_nil)) (nomark _)))), ?_⟩
    rcases hA with ⟨rfl, rfl⟩ | ⟨d, hx, hy, h1, h2, h3, h4, h5⟩
    · refine ⟨_, rfl, .inl ⟨rfl, _, rfl, .inl ⟨rfl, rfl, ?_⟩⟩⟩
      rw [decide_eq_true rfl]
      exact q
    · refine ⟨_, rfl, .inr ⟨x, d, rfl, hx, h1, h2, h3, h4, h5, _, rfl, .inr ⟨y, d, rfl, hy, h1, h2, h3, h4, h5, rfl, ?_⟩⟩⟩
      rw [decide_eq_true rfl]
      exact q
end
end K3

set_option maxRecDepth 100000
set_option maxHeartbeats 16000000
/-! drawn modules in a dict -/
namespace K3
open PySem hiding Tok code
open PySem.Spec PyProof.Rows GD K1
open L2 hiding rest
open K2 hiding Sp P
abbrev sModules : Stmt := topS 26
theorem mget_none {ms : Mods} {n : NM} (h : n ∉ ms.map (·.1)) : mget ms n = none := by
  unfold mget
  rw [Option.map_eq_none_iff, List.find?_eq_none]
  intro m hm e
  exact h (List.mem_map.mpr ⟨m, hm, of_decide_eq_true e⟩)
section
variable {P : Program} {w : World} {K : PySem.W.Frag} {mg : Str → Option Value} {base : Heap}
def spMods : L2.Sp := fun vs H Q _ => ∃ (b d : Addr) (ds : List Int) (n : Nat) (lo : Addr) (os : List NM), vs = [.ref b, .ref lo] ∧ Box H b d ds n ∧ Nam H lo os ∧ (∀ o ∈ os, o ∈ mods4) ∧ os.length ≤ 4 ∧ os.Nodup ∧
  ∀ H' D n' ms, Bs b d ds H H' n' → H D = none → MD H' D ms → ms.map (·.1) = os → (∀ m ∈ ms, DM m.1 os m.2) → Q (.ref D) H'
theorem scModules : FnScope ["box", "names", "modules", "name"] ["box", "names"] (defScope sModules) := ⟨rfl, rfl, rfl, by decide +kernel, rfl, by decide +kernel, by decide +kernel⟩
theorem ok_modules {f f1 : Addr} {fd fd1 : FuncData} (F : Fun K "_law_modules" "_law_modules" sModules f fd) (FM : FO P w K mg base CX0 7 "_law_module" ["box", "name", "others"] spMod f1 fd1) : FnOk P w K mg base CX0 8 f fd ["box", "names"] spMods := by
  have sc := scModules
  refine F.ok sc (fun vs H Q E h => ?_) (fun cdv A outer s H vs Q E hr h => ?_)
  · obtain ⟨b, d, ds, n, lo, os, rfl, _⟩ := h
    rfl
  · obtain ⟨b, d, ds, n, lo, os, rfl, hB, hN, h4, hl, hnd, ret⟩ := h
    have nlb : lo ≠ b := ne_of hN.at_ hB.1 (by
      intro z
      injection z with z
      cases os with
      | nil => cases z
      | cons o os => cases z)
    refine ⟨_, (pss_cons (ps_set (i := 2) sc.nd rfl (Or.inl rfl) pe_dnewK)
      (pss_cons (ps_for PassesOwn.never rfl (pi_list (pv 1)) (pg_name (i := 3) sc.nd rfl (Or.inl rfl))
      (pss_one (ps_dput (hu_of hr) (pv 2) (pv 3) (pe_call FM.ok hr (by rfl) FM.m FM.kp FM.b .nil pass0 (pa_cons (pv 0) (pa_cons (pv 3) (pa_cons (pv 1) pa_nil)))) rfl)))
      (pss_one (ps_ret (pv 2))))), ?_⟩
    refine fun D nD => ?_
    have B0 := (Bs.refl hB).new (o := .dK []) nD
    have nDb := (Bs.refl hB).nb nD
    refine ⟨_, rfl, lo, rfl, ⟨_, SqL.of (B0.bx _ _ nlb hN.at_)⟩, for_list (K := K) (a := lo) (xs := sts os) (fun i σ H' => ∃ (y3 : Option V) (kvs : List (Key × V)) (ms : Mods) (n' : Nat), σ = [some (.ref b), some (.ref lo), some (.ref D), y3] ∧ Bs b d ds H H' n' ∧ H' D = some (.dK kvs) ∧ KVs H' kvs ms ∧ ms.map (·.1) = os.take i ∧ ∀ m ∈ ms, DM m.1 os m.2)
      ⟨none, [], [], n, rfl, B0, upd_same, .nil, rfl, fun m h => (by cases h)⟩ (fun i σ H' _ ⟨_, _, _, _, _, B, _⟩ => SqL.of (B.bx _ _ nlb hN.at_)) ?_ ?_⟩
    · rintro i x σ H1 hx ⟨y3, kvs, ms, n', rfl, B1, eD, kk, em, hd⟩
      rw [List.getElem?_map, Option.map_eq_some_iff] at hx
      obtain ⟨t, ht, rfl⟩ := hx
      obtain ⟨hi, ht'⟩ := List.getElem?_eq_some_iff.mp ht
      have htm : t ∈ os := List.mem_of_getElem? ht
      refine ⟨_, rfl, _, rfl, _, rfl, b, d, ds, n', t, lo, os, rfl, B1.box, hN.bs hB B1, h4, hl, h4 t htm, fun H2 v n2 ls B2 mv dm => ?_⟩
      have eD2 := B2.bx _ _ nDb eD
      have kk2 := KVs.imp (Bs.tup B2 B1.box) kk
      have hm : mget ms t = none := mget_none (by
        rw [em]
        intro hin
        have e1 : os.take i ++ (t :: os.drop (i + 1)) = os := by rw [← ht', ← List.drop_eq_getElem_cons hi]; exact List.take_append_drop ..
        have n1 := hnd
        rw [← e1, List.nodup_append] at n1
        exact n1.2.2 t hin t (List.mem_cons_self ..) rfl)
      have hv : valV kvs (.inr (S t)) = none := by
        rcases kk2.val t with ⟨_, h2⟩ | ⟨ls, v, h1, _⟩
        · exact h2
        · rw [hm] at h1; cases h1
      have klen : kvs.length = ms.length := Paired.length kk
      have mlen : ms.length ≤ 4 := by
        have := congrArg List.length em
        rw [List.length_map, List.length_take] at this
        omega
      refine ⟨_, rfl, _, rfl, D, _, rfl, DPut.k (k := .inr (S t)) eD2 (szl (by omega)), ?_⟩
      rw [putK_new _ hv]
      have kD : ∀ q xs, H2 q = some (.tup xs) → upd H2 D (.dK (kvs ++ [(.inr (S t), v)])) q = some (.tup xs) := fun q xs h => by
        rw [upd_ne (fun e => by rw [e, eD2] at h; cases h)]; exact h
      refine ⟨_, _, ms ++ [(t, ls)], n2, rfl, (B1.trans B2).wr hB nD, upd_same, pairSnoc (KVs.imp kD kk2) ⟨rfl, mv.imp kD⟩, ?_, fun m hm => ?_⟩
      · rw [List.map_append, em, List.take_add_one, ht]; rfl
      · rcases List.mem_append.mp hm with h | h
        · exact hd m h
        · rw [List.mem_singleton.mp h]; exact dm
    · rintro σ H1 ⟨y3, kvs, ms, n', rfl, B1, eD, kk, em, hd⟩
      rw [List.length_map, List.take_length] at em
      exact ⟨_, rfl, ret _ _ _ ms B1 nD ⟨kvs, eD, kk⟩ em hd⟩
end
end K3

set_option maxRecDepth 100000
set_option maxHeartbeats 4000000
/-! faults of names: what both sides compute; parts_of; what a name means -/
namespace K3
open PySem hiding Tok code
open PySem.Spec PyProof.Rows GD K1
open L2 hiding rest
open K2 hiding Sp P
abbrev sParts : Stmt := topS 1
abbrev cScope : Stmt := topS 14
abbrev mSInit : Stmt := inClass cScope 0
abbrev mFault : Stmt := inClass cScope 1
abbrev mTop : Stmt := inClass cScope 2
abbrev mMean : Stmt := inClass cScope 3
abbrev mVar : Stmt := inClass cScope 4
abbrev mCall : Stmt := inClass cScope 5
structure Flt where
  w : Str
  m : NM
  x : NM
def FltV (H : Hp) (v : V) (f : Flt) : Prop := ∃ q, v = .ref q ∧ H q = some (.tup [.str f.w, .str (S f.m), .str (S f.x)])
inductive Mean where
  | par | ln (l : Ln)
def MeanV (H : Hp) (v : V) : Mean → Prop
  | .par => ∃ q, v = .ref q ∧ H q = some (.tup [.str "parameter"])
  | .ln l => LV H v l
def mean (ms : Mods) (m : NM) (ps : List NM) (x : NM) : Option Mean := if x ∈ ps then some .par else (avail ms (m, x)).bind fun q => (decl ms q.1 q.2).map .ln
def varF (ms : Mods) (m : NM) (ps : List NM) (x : NM) (par : Bool) : Option Flt := match mean ms m ps x with
  | none => some ⟨"name", m, x⟩
  | some .par => if par then none else some ⟨"variable", m, x⟩
  | some (.ln (.lt _ _ _)) => none
  | some (.ln _) => some ⟨"variable", m, x⟩
def callF (ms : Mods) (m : NM) (ps : List NM) (x : NM) (k : Nat) : Option Flt := match mean ms m ps x with
  | none => some ⟨"name", m, x⟩
  | some (.ln (.fn _ qs _)) => if qs.length = k then none else some ⟨"count", m, x⟩
  | some _ => some ⟨"function", m, x⟩
def topF (ms : Mods) (m : NM) (ps : List NM) : Tr → Option Flt
  | .name x => varF ms m ps x true
  | .set x _ => varF ms m ps x false
  | .call x as => callF ms m ps x as.length
  | _ => none
mutual
def tf (ms : Mods) (m : NM) (ps : List NM) : Tr → Option Flt
  | .num _ => none
  | .str _ => none
  | .name x => varF ms m ps x true
  | .call x as => (callF ms m ps x as.length).or (tfL ms m ps as)
  | .ite a b c => (tf ms m ps a).or ((tf ms m ps b).or (tf ms m ps c))
  | .set x t => (varF ms m ps x false).or (tf ms m ps t)
  | .seq a b => (tf ms m ps a).or (tf ms m ps b)
  | .op _ a b => (tf ms m ps a).or (tf ms m ps b)
def tfL (ms : Mods) (m : NM) (ps : List NM) : List Tr → Option Flt
  | [] => none
  | t :: r => (tf ms m ps t).or (tfL ms m ps r)
end
theorem tfL_app {ms : Mods} {m : NM} {ps : List NM} : ∀ {a b : List Tr}, tfL ms m ps (a ++ b) = (tfL ms m ps a).or (tfL ms m ps b)
  | [], b => by rw [List.nil_append, tfL]; rfl
  | t :: a, b => by rw [List.cons_append, tfL, tfL, tfL_app, Option.or_assoc]
section
variable {P : Program} {w : World} {K : PySem.W.Frag} {mg : Str → Option Value} {base : Heap} {C : Addr}
def kids : Tr → List Tr
  | .call _ as => as
  | .ite a b c => [a, b, c]
  | .set _ t => [t]
  | .seq a b => [a, b]
  | .op _ a b => [a, b]
  | _ => []
def spParts : L2.Sp := fun vs H Q _ => ∃ v t, vs = [v] ∧ TV H t v ∧ ∀ H' q ws, Same H H' → H' q = some (.tup ws) → TVs H' (kids t) ws → (kids t).length ≤ 5000 → Q (.ref q) H'
theorem scParts : FnScope ["tree", "kind"] ["tree"] (defScope sParts) := ⟨rfl, rfl, rfl, by decide +kernel, rfl, by decide +kernel, by decide +kernel⟩
theorem kinds_op : ∀ c ∈ [42, 43, 45, 60, 61], inV (.str (S [c])) [.str "number", .str "string", .str "name"] = false ∧ S [c] ≠ ("call" : Str) ∧ S [c] ≠ ("set" : Str) ∧ S [c] ≠ ("if" : Str) ∧ S [c] ≠ ("then" : Str) := by decide +kernel
theorem ok_parts {f : Addr} {fd : FuncData} (F : Fun K "parts_of" "parts_of" sParts f fd) : FnOk P w K mg base CX0 1 f fd ["tree"] spParts := by
  have sc := scParts
  refine F.ok sc (fun vs H Q E h => ?_) (fun cdv A outer s H vs Q E hr h => ?_)
  · obtain ⟨v, t, rfl, _⟩ := h
    rfl
  · obtain ⟨v, t, rfl, tv, q⟩ := h
    refine ⟨_, pss_cons (ps_set (i := 1) sc.nd rfl (.inl rfl) (pe_ix ix_tup (pv 0) pe_int (fun _ _ => rfl)))
      (pss_cons (ps_if (pt_cmpR op_in_seq (pv 1) (pe_tup (pa_cons pe_str (pa_cons pe_str (pa_cons pe_str pa_nil)))) rfl) (pss_one (ps_ret (pe_tup pa_nil))) pss_nil)
      (pss_cons (ps_if (pt_cmpR op_eq (pv 1) pe_str (nomark _)) (pss_one (ps_ret (pe_ix ix_tup (pv 0) pe_int (fun _ _ => rfl)))) pss_nil)
      (pss_cons (ps_if (pt_cmpR op_eq (pv 1) pe_str (nomark _)) (pss_one (ps_ret (pe_slice sl_tup (pv 0) (po_some pe_int) po_none))) pss_nil)
      (pss_one (ps_ret (pe_slice sl_tup (pv 0) (po_some pe_int) po_none)))))), ?_⟩
    have new : ∀ {H' : Hp} {x : Addr} {o : HO}, Same H H' → H' x = none → Same H (upd H' x o) := fun {H' x o} s n b u e => by rw [upd_ne (ne_of_none (s b u e) n)]; exact s b u e
    have nn : ∀ {H' : Hp}, Same H H' → ∀ q xs, H q = some (.tup xs) → H' q = some (.tup xs) := fun s q xs e => s q _ e
    cases t with
    | num m =>
      rw [TV] at tv
      obtain ⟨p, rfl, hp⟩ := tv
      refine ⟨_, rfl, p, _, _, _, rfl, rfl, SqT.of hp, atI_nat (j := 0) rfl, _, rfl, three_le, fun u nu => ⟨u, _, rfl, .inr (SqT.of upd_same), rfl, rfl, _, rfl, ?_⟩⟩
      have s1 := new (o := .tup [.str "number", .str "string", .str "name"]) (Same.refl H) nu
      refine iteT ⟨Nat.zero_le _, fun x nx => q _ x [] (new s1 nx) upd_same (by show TVs _ [] []; rw [TVs]) (by show 0 ≤ 5000; decide)⟩
    | str m =>
      rw [TV] at tv
      obtain ⟨p, rfl, hp⟩ := tv
      refine ⟨_, rfl, p, _, _, _, rfl, rfl, SqT.of hp, atI_nat (j := 0) rfl, _, rfl, three_le, fun u nu => ⟨u, _, rfl, .inr (SqT.of upd_same), rfl, rfl, _, rfl, ?_⟩⟩
      have s1 := new (o := .tup [.str "number", .str "string", .str "name"]) (Same.refl H) nu
      refine iteT ⟨Nat.zero_le _, fun x nx => q _ x [] (new s1 nx) upd_same (by show TVs _ [] []; rw [TVs]) (by show 0 ≤ 5000; decide)⟩
    | name m =>
      rw [TV] at tv
      obtain ⟨p, rfl, hp⟩ := tv
      refine ⟨_, rfl, p, _, _, _, rfl, rfl, SqT.of hp, atI_nat (j := 0) rfl, _, rfl, three_le, fun u nu => ⟨u, _, rfl, .inr (SqT.of upd_same), rfl, rfl, _, rfl, ?_⟩⟩
      have s1 := new (o := .tup [.str "number", .str "string", .str "name"]) (Same.refl H) nu
      refine iteT ⟨Nat.zero_le _, fun x nx => q _ x [] (new s1 nx) upd_same (by show TVs _ [] []; rw [TVs]) (by show 0 ≤ 5000; decide)⟩
    | call g as =>
      rw [TV] at tv
      obtain ⟨p, ar, ws, rfl, hp, ha, tvs, hl⟩ := tv
      refine ⟨_, rfl, p, _, _, _, rfl, rfl, SqT.of hp, atI_nat (j := 0) rfl, _, rfl, three_le, fun u nu => ⟨u, _, rfl, .inr (SqT.of upd_same), rfl, rfl, _, rfl, ?_⟩⟩
      have s1 := new (o := .tup [.str "number", .str "string", .str "name"]) (Same.refl H) nu
      refine iteF ⟨_, rfl, rfl, _, rfl, ?_⟩
      refine iteT ⟨_, rfl, p, _, _, _, rfl, rfl, SqT.of (s1 _ _ hp), atI_nat (j := 2) rfl, ?_⟩
      exact q _ ar ws s1 (s1 _ _ ha) (TVs.imp (nn s1) as ws tvs) hl
    | set y t =>
      rw [TV] at tv
      obtain ⟨p, a, rfl, hp, ta⟩ := tv
      refine ⟨_, rfl, p, _, _, _, rfl, rfl, SqT.of hp, atI_nat (j := 0) rfl, _, rfl, three_le, fun u nu => ⟨u, _, rfl, .inr (SqT.of upd_same), rfl, rfl, _, rfl, ?_⟩⟩
      have s1 := new (o := .tup [.str "number", .str "string", .str "name"]) (Same.refl H) nu
      refine iteF ⟨_, rfl, rfl, _, rfl, ?_⟩
      refine iteF ⟨_, rfl, rfl, _, rfl, ?_⟩
      refine iteT ?_
      refine ⟨_, rfl, _, rfl, p, _, rfl, SqT.of (s1 _ _ hp), (fun z => Nat.noConfusion (show (2 : Nat) = 0 from z.1)), fun x nx => ?_⟩
      exact q _ x [a] (new s1 nx) upd_same (TVs.one (TV.imp (nn (new s1 nx)) t a ta)) (by show 1 ≤ 5000; decide)
    | ite x1 y1 z1 =>
      rw [TV] at tv
      obtain ⟨p, a, b, c, rfl, hp, ta, tb, tc⟩ := tv
      refine ⟨_, rfl, p, _, _, _, rfl, rfl, SqT.of hp, atI_nat (j := 0) rfl, _, rfl, three_le, fun u nu => ⟨u, _, rfl, .inr (SqT.of upd_same), rfl, rfl, _, rfl, ?_⟩⟩
      have s1 := new (o := .tup [.str "number", .str "string", .str "name"]) (Same.refl H) nu
      refine iteF ⟨_, rfl, rfl, _, rfl, ?_⟩
      refine iteF ⟨_, rfl, rfl, _, rfl, ?_⟩
      refine iteF ?_
      refine ⟨_, rfl, _, rfl, p, _, rfl, SqT.of (s1 _ _ hp), (fun z => Nat.noConfusion (show (1 : Nat) = 0 from z.1)), fun x nx => ?_⟩
      exact q _ x [a, b, c] (new s1 nx) upd_same (TVs.three (TV.imp (nn (new s1 nx)) x1 a ta) (TV.imp (nn (new s1 nx)) y1 b tb) (TV.imp (nn (new s1 nx)) z1 c tc)) (by show 3 ≤ 5000; decide)
    | seq x1 y1 =>
      rw [TV] at tv
      obtain ⟨p, a, b, rfl, hp, ta, tb⟩ := tv
      refine ⟨_, rfl, p, _, _, _, rfl, rfl, SqT.of hp, atI_nat (j := 0) rfl, _, rfl, three_le, fun u nu => ⟨u, _, rfl, .inr (SqT.of upd_same), rfl, rfl, _, rfl, ?_⟩⟩
      have s1 := new (o := .tup [.str "number", .str "string", .str "name"]) (Same.refl H) nu
      refine iteF ⟨_, rfl, rfl, _, rfl, ?_⟩
      refine iteF ⟨_, rfl, rfl, _, rfl, ?_⟩
      refine iteF ?_
      refine ⟨_, rfl, _, rfl, p, _, rfl, SqT.of (s1 _ _ hp), (fun z => Nat.noConfusion (show (1 : Nat) = 0 from z.1)), fun x nx => ?_⟩
      exact q _ x [a, b] (new s1 nx) upd_same (TVs.two (TV.imp (nn (new s1 nx)) x1 a ta) (TV.imp (nn (new s1 nx)) y1 b tb)) (by show 2 ≤ 5000; decide)
    | op c x1 y1 =>
      rw [TV] at tv
      obtain ⟨p, a, b, rfl, hp, ta, tb, hk⟩ := tv
      simp only [List.mem_cons, List.not_mem_nil, or_false] at hk
      rcases hk with rfl | rfl | rfl | rfl | rfl
      · refine ⟨_, rfl, p, _, _, _, rfl, rfl, SqT.of hp, atI_nat (j := 0) rfl, _, rfl, three_le, fun u nu => ⟨u, _, rfl, .inr (SqT.of upd_same), rfl, rfl, _, rfl, ?_⟩⟩
        have s1 := new (o := .tup [.str "number", .str "string", .str "name"]) (Same.refl H) nu
        refine iteF ⟨_, rfl, rfl, _, rfl, ?_⟩
        refine iteF ⟨_, rfl, rfl, _, rfl, ?_⟩
        refine iteF ?_
        refine ⟨_, rfl, _, rfl, p, _, rfl, SqT.of (s1 _ _ hp), (fun z => Nat.noConfusion (show (1 : Nat) = 0 from z.1)), fun x nx => ?_⟩
        exact q _ x [a, b] (new s1 nx) upd_same (TVs.two (TV.imp (nn (new s1 nx)) x1 a ta) (TV.imp (nn (new s1 nx)) y1 b tb)) (by show 2 ≤ 5000; decide)
      · refine ⟨_, rfl, p, _, _, _, rfl, rfl, SqT.of hp, atI_nat (j := 0) rfl, _, rfl, three_le, fun u nu => ⟨u, _, rfl, .inr (SqT.of upd_same), rfl, rfl, _, rfl, ?_⟩⟩
        have s1 := new (o := .tup [.str "number", .str "string", .str "name"]) (Same.refl H) nu
        refine iteF ⟨_, rfl, rfl, _, rfl, ?_⟩
        refine iteF ⟨_, rfl, rfl, _, rfl, ?_⟩
        refine iteF ?_
        refine ⟨_, rfl, _, rfl, p, _, rfl, SqT.of (s1 _ _ hp), (fun z => Nat.noConfusion (show (1 : Nat) = 0 from z.1)), fun x nx => ?_⟩
        exact q _ x [a, b] (new s1 nx) upd_same (TVs.two (TV.imp (nn (new s1 nx)) x1 a ta) (TV.imp (nn (new s1 nx)) y1 b tb)) (by show 2 ≤ 5000; decide)
      · refine ⟨_, rfl, p, _, _, _, rfl, rfl, SqT.of hp, atI_nat (j := 0) rfl, _, rfl, three_le, fun u nu => ⟨u, _, rfl, .inr (SqT.of upd_same), rfl, rfl, _, rfl, ?_⟩⟩
        have s1 := new (o := .tup [.str "number", .str "string", .str "name"]) (Same.refl H) nu
        refine iteF ⟨_, rfl, rfl, _, rfl, ?_⟩
        refine iteF ⟨_, rfl, rfl, _, rfl, ?_⟩
        refine iteF ?_
        refine ⟨_, rfl, _, rfl, p, _, rfl, SqT.of (s1 _ _ hp), (fun z => Nat.noConfusion (show (1 : Nat) = 0 from z.1)), fun x nx => ?_⟩
        exact q _ x [a, b] (new s1 nx) upd_same (TVs.two (TV.imp (nn (new s1 nx)) x1 a ta) (TV.imp (nn (new s1 nx)) y1 b tb)) (by show 2 ≤ 5000; decide)
      · refine ⟨_, rfl, p, _, _, _, rfl, rfl, SqT.of hp, atI_nat (j := 0) rfl, _, rfl, three_le, fun u nu => ⟨u, _, rfl, .inr (SqT.of upd_same), rfl, rfl, _, rfl, ?_⟩⟩
        have s1 := new (o := .tup [.str "number", .str "string", .str "name"]) (Same.refl H) nu
        refine iteF ⟨_, rfl, rfl, _, rfl, ?_⟩
        refine iteF ⟨_, rfl, rfl, _, rfl, ?_⟩
        refine iteF ?_
        refine ⟨_, rfl, _, rfl, p, _, rfl, SqT.of (s1 _ _ hp), (fun z => Nat.noConfusion (show (1 : Nat) = 0 from z.1)), fun x nx => ?_⟩
        exact q _ x [a, b] (new s1 nx) upd_same (TVs.two (TV.imp (nn (new s1 nx)) x1 a ta) (TV.imp (nn (new s1 nx)) y1 b tb)) (by show 2 ≤ 5000; decide)
      · refine ⟨_, rfl, p, _, _, _, rfl, rfl, SqT.of hp, atI_nat (j := 0) rfl, _, rfl, three_le, fun u nu => ⟨u, _, rfl, .inr (SqT.of upd_same), rfl, rfl, _, rfl, ?_⟩⟩
        have s1 := new (o := .tup [.str "number", .str "string", .str "name"]) (Same.refl H) nu
        refine iteF ⟨_, rfl, rfl, _, rfl, ?_⟩
        refine iteF ⟨_, rfl, rfl, _, rfl, ?_⟩
        refine iteF ?_
        refine ⟨_, rfl, _, rfl, p, _, rfl, SqT.of (s1 _ _ hp), (fun z => Nat.noConfusion (show (1 : Nat) = 0 from z.1)), fun x nx => ?_⟩
        exact q _ x [a, b] (new s1 nx) upd_same (TVs.two (TV.imp (nn (new s1 nx)) x1 a ta) (TV.imp (nn (new s1 nx)) y1 b tb)) (by show 2 ≤ 5000; decide)

theorem tf_kids (ms : Mods) (m : NM) (ps : List NM) (t : Tr) : tf ms m ps t = (topF ms m ps t).or (tfL ms m ps (kids t)) := by
  cases t with
  | num n => rfl
  | str l => rfl
  | name x => rw [tf, topF, kids, tfL, Option.or_none]; intros; contradiction; all_goals intros; contradiction
  | call x as => rw [tf, topF, kids]
  | ite a b c => rw [tf, topF, kids, tfL, tfL, tfL, tfL, Option.or_none, Option.none_or]; all_goals (intros; contradiction)
  | set x t => rw [tf, topF, kids, tfL, tfL, Option.or_none]
  | seq a b => rw [tf, topF, kids, tfL, tfL, tfL, Option.or_none, Option.none_or]; all_goals (intros; contradiction)
  | op c a b => rw [tf, topF, kids, tfL, tfL, tfL, Option.or_none, Option.none_or]; all_goals (intros; contradiction)
def sF (dm : Addr) (m : NM) (pr : Addr) : List (Str × V) := [("modules", .ref dm), ("module", .str (S m)), ("parameters", .ref pr)]
theorem sF_d {dm pr : Addr} {m : NM} : (sF dm m pr).lookup ("modules" : Str) = some (.ref dm) := lk_here
theorem sF_m {dm pr : Addr} {m : NM} : (sF dm m pr).lookup ("module" : Str) = some (.str (S m)) := (lk_past (by decide +kernel)).trans lk_here
theorem sF_p {dm pr : Addr} {m : NM} : (sF dm m pr).lookup ("parameters" : Str) = some (.ref pr) := (lk_past (by decide +kernel)).trans ((lk_past (by decide +kernel)).trans lk_here)
theorem sF_no {dm pr : Addr} {m : NM} {f : Str} (h : ([("modules" : Str), "module", "parameters"] : List Str).all (fun g : Str => !(f == g)) = true) : (sF dm m pr).lookup f = none := by
  simp only [List.all_cons, List.all_nil, Bool.and_true, Bool.and_eq_true, Bool.not_eq_true'] at h
  exact (lk_past h.1).trans ((lk_past h.2.1).trans ((lk_past h.2.2).trans rfl))
theorem sF_new (dm pr : Addr) (m : NM) : putF "parameters" (.ref pr) (putF "module" (.str (S m)) (putF "modules" (.ref dm) [])) = sF dm m pr := by
  have e1 : putF "modules" (.ref dm) [] = [(("modules" : Str), V.ref dm)] := rfl
  have e2 : putF "module" (.str (S m)) [(("modules" : Str), V.ref dm)] = [(("modules" : Str), V.ref dm), ("module", .str (S m))] := put_past (by decide +kernel)
  have e3 : putF "parameters" (.ref pr) [(("modules" : Str), V.ref dm), ("module", .str (S m))] = sF dm m pr := (put_past (by decide +kernel)).trans (congrArg _ (put_past (by decide +kernel)))
  rw [e1, e2, e3]
structure TxS (K : PySem.W.Frag) (mg : Str → Option Value) (C : Addr) : Prop where
  cl : Cls K C
  nd : NoAttr K C "modules"
  nm : NoAttr K C "module"
  np : NoAttr K C "parameters"
  gS : mg "Scope" = some (.ref C)
structure SA (C : Addr) (H : Hp) (p dm : Addr) (ms : Mods) (m : NM) (ps : List NM) : Prop where
  ex : ∃ dx pr, H p = some (.ins C dx (sF dm m pr)) ∧ H pr = some (.tup (sts ps)) ∧ MD H dm ms
theorem SA.same {H H' : Hp} {p dm : Addr} {ms : Mods} {m : NM} {ps : List NM} (h : SA C H p dm ms m ps) (s : Same H H') : SA C H' p dm ms m ps := by
  obtain ⟨dx, pr, h1, h2, h3⟩ := h.ex
  exact ⟨dx, pr, s _ _ h1, s _ _ h2, h3.same s⟩
/-- where available answers -/
structure AvOK (ms : Mods) (m : NM) : Prop where
  t90 : (tgt ms).length ≤ 90
  im : ∀ x q, lstd false ms (m, x) = some q → smP q
  tg : ∀ p ∈ tgt ms, smP p
structure MO (P : Program) (w : World) (K : PySem.W.Frag) (mg : Str → Option Value) (base : Heap) (C : Addr) (k : Nat) (x : Str) (ps : List Str) (sp : L2.Sp) (f : Addr) (fd : FuncData) : Prop where
  mt : Meth K C x f
  b : Binds K fd ps []
  ok : FnOk P w K mg base CX0 k f fd ps sp
def spSInit (C : Addr) : L2.Sp := fun vs H Q _ => ∃ (p dx dm : Addr) (m : NM) (pr : Addr), vs = [.ref p, .ref dm, .str (S m), .ref pr] ∧ H p = some (.ins C dx []) ∧ H dx = some (.own p) ∧
  ∀ H', H' p = some (.ins C dx (sF dm m pr)) → (∀ b, b ≠ p → H' b = H b) → Q .non H'
theorem scSInit : FnScope ["self", "modules", "module", "parameters"] ["self", "modules", "module", "parameters"] (defScope mSInit) := ⟨rfl, rfl, rfl, by decide +kernel, rfl, by decide +kernel, by decide +kernel⟩
theorem ok_sinit {f : Addr} {fd : FuncData} (F : Fun K "__init__" "Scope.__init__" mSInit f fd) (SC : TxS K mg C) : FnOk P w K mg base CX0 1 f fd ["self", "modules", "module", "parameters"] (spSInit C) := by
  have sc := scSInit
  refine F.ok sc (fun vs H Q E h => ?_) (fun cdv A outer s H vs Q E hr h => ?_)
  · obtain ⟨p, dx, dm, m, pr, rfl, _⟩ := h
    rfl
  · obtain ⟨p, dx, dm, m, pr, rfl, hp, hdx, q⟩ := h
    refine ⟨_, (pss_cons (ps_fld (pv 0) (pv 1) rfl)
      (pss_cons (ps_fld (pv 0) (pv 2) rfl)
      (pss_one (ps_fld (pv 0) (pv 3) rfl)))), ?_⟩
    refine ⟨_, rfl, _, rfl, p, C, dx, _, rfl, hp, SC.cl, SC.nd, (by show 0 < 1000; decide), ?_⟩
    refine ⟨_, rfl, _, rfl, p, C, dx, _, rfl, upd_same, SC.cl, SC.nm, (by show 1 < 1000; decide), ?_⟩
    refine ⟨_, rfl, _, rfl, p, C, dx, _, rfl, upd_same, SC.cl, SC.np, (by show 2 < 1000; decide), ?_⟩
    rw [sF_new]
    exact q _ upd_same (fun b nb => by rw [upd_ne nb, upd_ne nb, upd_ne nb])
def spMean (C : Addr) : L2.Sp := fun vs H Q _ => ∃ (p dm : Addr) (ms : Mods) (m : NM) (ps : List NM) (x : NM), vs = [.ref p, .str (S x)] ∧ SA C H p dm ms m ps ∧ AvOK ms m ∧ ∀ H' v, Same H H' → optV H' (MeanV H') v (mean ms m ps x) → Q v H'
theorem scMean : FnScope ["self", "name", "binding"] ["self", "name"] (defScope mMean) := ⟨rfl, rfl, rfl, by decide +kernel, rfl, by decide +kernel, by decide +kernel⟩
theorem ok_mean {f f1 f2 : Addr} {fd fd1 fd2 : FuncData} (F : Fun K "meaning" "Scope.meaning" mMean f fd) (SC : TxS K mg C)
    (FA : FO P w K mg base CX0 3 "available" ["modules", "module", "name"] spAvail f1 fd1) (FD : FO P w K mg base CX0 1 "declaration" ["modules", "binding"] spDecl f2 fd2) : FnOk P w K mg base CX0 4 f fd ["self", "name"] (spMean C) := by
  have sc := scMean
  refine F.ok sc (fun vs H Q E h => ?_) (fun cdv A outer s H vs Q E hr h => ?_)
  · obtain ⟨p, dm, ms, m, ps, x, rfl, _⟩ := h
    rfl
  · obtain ⟨p, dm, ms, m, ps, x, rfl, hs, av, q⟩ := h
    refine ⟨_, (pss_cons (ps_if (pt_cmpR op_in_seq (pv 1) (pe_fld (pv 0) rfl) rfl)
      (pss_one (ps_ret (pe_tup (pa_cons pe_str pa_nil))))
      pss_nil)
      (pss_cons (ps_set (i := 2) sc.nd rfl (Or.inl rfl) (pe_call FA.ok hr (by rfl) FA.m FA.kp FA.b .nil pass0 (pa_cons (pe_fld (pv 0) rfl) (pa_cons (pe_fld (pv 0) rfl) (pa_cons (pv 1) pa_nil)))))
      (pss_one (ps_ret (pe_ifExp (pt_cmpR op_isN (pv 2) pe_non (nomark _)) pe_non (pe_call FD.ok (hr.mono (by decide)) (by rfl) FD.m FD.kp FD.b .nil pass0 (pa_cons (pe_fld (pv 0) rfl) (pa_cons (pv 2) pa_nil)))))))), ?_⟩
    obtain ⟨dx, pr, h1, h2, h3⟩ := hs.ex
    refine ⟨_, rfl, _, rfl, p, C, dx, _, _, rfl, h1, SC.cl, SC.np, sF_p, pr, _, rfl, .inr (SqT.of h2), rfl, flat_strs ps, _, rfl, ?_⟩
    rw [show (if false = true then !inV (V.str (S x)) (sts ps) else inV (V.str (S x)) (sts ps)) = decide (x ∈ ps) from inV_strs x ps]
    refine ite2 (fun hx => ?_) (fun hx => ?_)
    · have hx := of_decide_eq_true hx
      refine ⟨one_le, fun u nu => q _ _ (Same.lst (Same.refl _) nu) ?_⟩
      unfold mean
      rw [if_pos hx]
      exact ⟨u, rfl, upd_same⟩
    · have hx : x ∉ ps := fun z => hx (decide_eq_true z)
      have em : mean ms m ps x = (avail ms (m, x)).bind fun q => (decl ms q.1 q.2).map .ln := by
        unfold mean
        rw [if_neg hx]
      rw [em] at q
      refine ⟨_, rfl, p, C, dx, _, _, rfl, h1, SC.cl, SC.nd, sF_d, _, rfl, p, C, dx, _, _, rfl, h1, SC.cl, SC.nm, sF_m, _, rfl, dm, ms, m, x, rfl, h3, av.t90, av.im x, av.tg, fun H1 v s1 hv => ?_⟩
      refine ⟨_, rfl, rfl, _, rfl, ?_⟩
      rw [optP_non hv]
      cases ha : avail ms (m, x) with
      | none =>
        rw [ha] at q
        exact iteT (q _ _ s1 rfl)
      | some b =>
        rw [ha] at q hv
        refine iteF ?_
        refine ⟨_, rfl, p, C, dx, _, _, rfl, s1 _ _ h1, SC.cl, SC.nd, sF_d, _, rfl, dm, v, ms, b.1, b.2, rfl, h3.same s1, hv, fun H2 u s2 hu => ?_⟩
        refine q _ _ (fun z o e => s2 _ _ (s1 _ _ e)) ?_
        show optV H2 (MeanV H2) u ((decl ms b.1 b.2).map .ln)
        cases hd : decl ms b.1 b.2 with
        | none => rw [hd] at hu; exact hu
        | some l => rw [hd] at hu; exact hu
end
end K3

set_option maxRecDepth 100000
set_option maxHeartbeats 4000000
/-! faults of variables, calls, the top of a tree, a tree -/
namespace K3
open PySem hiding Tok code
open PySem.Spec PyProof.Rows GD K1
open L2 hiding rest
open K2 hiding Sp P
section
variable {P : Program} {w : World} {K : PySem.W.Frag} {mg : Str → Option Value} {base : Heap} {C : Addr}
theorem iteF' {c : Bool} {A B : Prop} (h : c = false) (x : B) : if c = true then A else B := by
  rw [h]
  exact iteF x
theorem iteT' {c : Bool} {A B : Prop} (h : c = true) (x : A) : if c = true then A else B := by
  rw [h]
  exact iteT x
theorem optM_non {H : Hp} {v : V} {o : Option Mean} (h : optV H (MeanV H) v o) : decide (v = .non) = o.isNone := by
  cases o with
  | none => rw [show v = .non from h]; rfl
  | some m =>
    cases m with
    | par =>
      obtain ⟨q, rfl, _⟩ := h
      rfl
    | ln l =>
      obtain ⟨q, xs, rfl, _⟩ := LV.hd (show LV H v l from h)
      rfl
theorem optF_non {H : Hp} {v : V} {o : Option Flt} (h : optV H (FltV H) v o) : decide (v = .non) = o.isNone := by
  cases o with
  | none => rw [show v = .non from h]; rfl
  | some m =>
    obtain ⟨q, rfl, _⟩ := h
    rfl
def mnW : Mean → Str
  | .par => "parameter"
  | .ln l => lnW l
theorem MeanV.hd {H : Hp} {v : V} {m : Mean} (h : MeanV H v m) : ∃ q xs, v = .ref q ∧ H q = some (.tup (.str (mnW m) :: xs)) := by
  cases m with
  | par =>
    obtain ⟨q, e, h⟩ := h
    exact ⟨q, [], e, h⟩
  | ln l =>
    obtain ⟨q, xs, e, h, _⟩ := LV.hd (show LV H v l from h)
    exact ⟨q, xs, e, h⟩
def kdV (par : Bool) : List V := if par then [.str "let", .str "keep", .str "parameter"] else [.str "let", .str "keep"]
def isVar (par : Bool) : Mean → Bool
  | .par => par
  | .ln (.lt _ _ _) => true
  | .ln _ => false
theorem kd_in (par : Bool) (m : Mean) : inV (.str (mnW m)) (kdV par) = isVar par m := by
  cases m with
  | par => cases par <;> rfl
  | ln l =>
    cases l with
    | lst w _ _ => cases par <;> cases w <;> rfl
    | lt k _ _ => cases par <;> cases k <;> rfl
    | fn _ _ _ => cases par <;> rfl
    | dw k _ => cases par <;> cases k <;> rfl
theorem varF_eq (ms : Mods) (m : NM) (ps : List NM) (x : NM) (par : Bool) : varF ms m ps x par = match mean ms m ps x with
    | none => some ⟨"name", m, x⟩
    | some k => if isVar par k = true then none else some ⟨"variable", m, x⟩ := by
  unfold varF
  cases mean ms m ps x with
  | none => rfl
  | some k =>
    cases k with
    | par => cases par <;> rfl
    | ln l => cases l <;> rfl
def spVar (C : Addr) : L2.Sp := fun vs H Q _ => ∃ (p dm : Addr) (ms : Mods) (m : NM) (ps : List NM) (x : NM) (kd : Addr) (par : Bool), vs = [.ref p, .str (S x), .ref kd] ∧ SA C H p dm ms m ps ∧ AvOK ms m ∧ H kd = some (.tup (kdV par)) ∧
  ∀ H' v, Same H H' → optV H' (FltV H') v (varF ms m ps x par) → Q v H'
theorem scVar : FnScope ["self", "name", "kinds", "meaning"] ["self", "name", "kinds"] (defScope mVar) := ⟨rfl, rfl, rfl, by decide +kernel, rfl, by decide +kernel, by decide +kernel⟩
theorem ok_var {f f1 : Addr} {fd fd1 : FuncData} (F : Fun K "fault_of_variable" "Scope.fault_of_variable" mVar f fd) (SC : TxS K mg C)
    (GM : MO P w K mg base C 4 "meaning" ["self", "name"] (spMean C) f1 fd1) : FnOk P w K mg base CX0 5 f fd ["self", "name", "kinds"] (spVar C) := by
  have sc := scVar
  refine F.ok sc (fun vs H Q E h => ?_) (fun cdv A outer s H vs Q E hr h => ?_)
  · obtain ⟨p, dm, ms, m, ps, x, kd, par, rfl, _⟩ := h
    rfl
  · obtain ⟨p, dm, ms, m, ps, x, kd, par, rfl, hs, av, hk, q⟩ := h
    refine ⟨_, (pss_cons (ps_set (i := 3) sc.nd rfl (Or.inl rfl) (pe_meth (pv 0) SC.cl GM.mt GM.ok hr GM.b .nil pass0 (pa_cons (pv 1) pa_nil)))
      (pss_cons (ps_if (pt_cmpR op_isN (pv 3) pe_non (nomark _))
      (pss_one (ps_ret (pe_tup (pa_cons pe_str (pa_cons (pe_fld (pv 0) rfl) (pa_cons (pv 1) pa_nil))))))
      pss_nil)
      (pss_one (ps_ret (pe_ifExp (pt_cmpR op_in_seq (pe_ix ix_tup (pv 3) pe_int (fun _ _ => rfl)) (pv 2) rfl) pe_non (pe_tup (pa_cons pe_str (pa_cons (pe_fld (pv 0) rfl) (pa_cons (pv 1) pa_nil))))))))), ?_⟩
    obtain ⟨dx, pr, h1, h2, h3⟩ := hs.ex
    refine ⟨_, rfl, p, dx, _, rfl, h1, sF_no (f := "meaning") (by decide +kernel), _, rfl, p, dm, ms, m, ps, x, rfl, hs, av, fun H1 v s1 hv => ?_⟩
    refine ⟨_, rfl, rfl, _, rfl, ?_⟩
    rw [optM_non hv]
    rw [varF_eq] at q
    cases hm : mean ms m ps x with
    | none =>
      rw [hm] at q
      refine iteT ⟨_, rfl, p, C, dx, _, _, rfl, s1 _ _ h1, SC.cl, SC.nm, sF_m, _, rfl, three_le, fun u nu => ?_⟩
      exact q _ _ (Same.up s1 nu) ⟨u, rfl, upd_same⟩
    | some k =>
      rw [hm] at q hv
      obtain ⟨a, xs, rfl, ha⟩ := MeanV.hd (show MeanV H1 v k from hv)
      refine iteF ?_
      refine ⟨_, rfl, a, _, _, _, rfl, rfl, SqT.of ha, atI_nat (j := 0) rfl, _, rfl, kd, _, rfl, .inr (SqT.of (s1 _ _ hk)), rfl, (by cases par <;> rfl), _, rfl, ?_⟩
      rw [show (if false = true then !inV (V.str (mnW k)) (kdV par) else inV (V.str (mnW k)) (kdV par)) = isVar par k from kd_in par k]
      cases hb : isVar par k with
      | true =>
        refine iteT (q _ _ s1 ?_)
        show optV H1 (FltV H1) _ (if isVar par k = true then none else some _)
        rw [if_pos hb]
        rfl
      | false =>
        refine iteF ⟨_, rfl, p, C, dx, _, _, rfl, s1 _ _ h1, SC.cl, SC.nm, sF_m, _, rfl, three_le, fun u nu => ?_⟩
        refine q _ _ (Same.up s1 nu) ?_
        show optV _ (FltV _) _ (if isVar par k = true then none else some _)
        rw [if_neg (by rw [hb]; decide)]
        exact ⟨u, rfl, upd_same⟩
def spCallF (C : Addr) : L2.Sp := fun vs H Q _ => ∃ (p dm : Addr) (ms : Mods) (m : NM) (ps : List NM) (x : NM) (k : Nat), vs = [.ref p, .str (S x), .int (k : Nat)] ∧ SA C H p dm ms m ps ∧ AvOK ms m ∧
  ∀ H' v, Same H H' → optV H' (FltV H') v (callF ms m ps x k) → Q v H'
theorem scCallF : FnScope ["self", "name", "many", "meaning"] ["self", "name", "many"] (defScope mCall) := ⟨rfl, rfl, rfl, by decide +kernel, rfl, by decide +kernel, by decide +kernel⟩
theorem ok_callF {f f1 : Addr} {fd fd1 : FuncData} (F : Fun K "fault_of_call" "Scope.fault_of_call" mCall f fd) (T : Txt K mg) (SC : TxS K mg C)
    (GM : MO P w K mg base C 4 "meaning" ["self", "name"] (spMean C) f1 fd1) : FnOk P w K mg base CX0 5 f fd ["self", "name", "many"] (spCallF C) := by
  have sc := scCallF
  refine F.ok sc (fun vs H Q E h => ?_) (fun cdv A outer s H vs Q E hr h => ?_)
  · obtain ⟨p, dm, ms, m, ps, x, k, rfl, _⟩ := h
    rfl
  · obtain ⟨p, dm, ms, m, ps, x, k, rfl, hs, av, q⟩ := h
    refine ⟨_, (pss_cons (ps_set (i := 3) sc.nd rfl (Or.inl rfl) (pe_meth (pv 0) SC.cl GM.mt GM.ok hr GM.b .nil pass0 (pa_cons (pv 1) pa_nil)))
      (pss_cons (ps_if (pt_cmpR op_isN (pv 3) pe_non (nomark _))
      (pss_one (ps_ret (pe_tup (pa_cons pe_str (pa_cons (pe_fld (pv 0) rfl) (pa_cons (pv 1) pa_nil))))))
      pss_nil)
      (pss_cons (ps_if (pt_cmpR op_ne (pe_ix ix_tup (pv 3) pe_int (fun _ _ => rfl)) pe_str (nomark _))
      (pss_one (ps_ret (pe_tup (pa_cons pe_str (pa_cons (pe_fld (pv 0) rfl) (pa_cons (pv 1) pa_nil))))))
      pss_nil)
      (pss_one (ps_ret (pe_ifExp (pt_cmpR op_eq (pe_callB call_len_seq (by rfl) T.len (by decide +kernel) (pa_cons (pe_ix ix_tup (pv 3) pe_int (fun _ _ => rfl)) pa_nil)) (pv 2) (nomark _)) pe_non (pe_tup (pa_cons pe_str (pa_cons (pe_fld (pv 0) rfl) (pa_cons (pv 1) pa_nil)))))))))), ?_⟩
    obtain ⟨dx, pr, h1, h2, h3⟩ := hs.ex
    refine ⟨_, rfl, p, dx, _, rfl, h1, sF_no (f := "meaning") (by decide +kernel), _, rfl, p, dm, ms, m, ps, x, rfl, hs, av, fun H1 v s1 hv => ?_⟩
    refine ⟨_, rfl, rfl, _, rfl, ?_⟩
    rw [optM_non hv]
    unfold callF at q
    cases hm : mean ms m ps x with
    | none =>
      rw [hm] at q
      refine iteT ⟨_, rfl, p, C, dx, _, _, rfl, s1 _ _ h1, SC.cl, SC.nm, sF_m, _, rfl, three_le, fun u nu => ?_⟩
      exact q _ _ (Same.up s1 nu) ⟨u, rfl, upd_same⟩
    | some k0 =>
      rw [hm] at q hv
      obtain ⟨a, xs, rfl, ha⟩ := MeanV.hd (show MeanV H1 v k0 from hv)
      refine iteF ?_
      refine ⟨_, rfl, a, _, _, _, rfl, rfl, SqT.of ha, atI_nat (j := 0) rfl, rfl, _, rfl, ?_⟩
      have no : (∀ g qs t, k0 ≠ .ln (.fn g qs t)) → (∀ u, H1 u = none → Q (.ref u) (upd H1 u (.tup [.str "function", .str (S m), .str (S x)]))) := fun h u nu => by
        refine q _ _ (Same.up s1 nu) ?_
        cases k0 with
        | par => exact ⟨u, rfl, upd_same⟩
        | ln l =>
          cases l with
          | fn g qs t => exact absurd rfl (h g qs t)
          | lst _ _ _ => exact ⟨u, rfl, upd_same⟩
          | lt _ _ _ => exact ⟨u, rfl, upd_same⟩
          | dw _ _ => exact ⟨u, rfl, upd_same⟩
      have fin : mnW k0 ≠ "fn" → (∀ g qs t, k0 ≠ .ln (.fn g qs t)) := fun h g qs t e => h (by rw [e]; rfl)
      by_cases hw : mnW k0 = "fn"
      · refine iteF' (by rw [hw]; rfl) ?_
        obtain ⟨g, qs, tr, rfl⟩ : ∃ g qs tr, k0 = .ln (.fn g qs tr) := by
          cases k0 with
          | par => exact absurd hw (by decide +kernel)
          | ln l =>
            cases l with
            | fn g qs t => exact ⟨g, qs, t, rfl⟩
            | lst w _ _ => cases w <;> exact absurd (show _ = Str.ofString "fn" from hw) (by show ¬ (Str.ofString _ = Str.ofString "fn"); decide +kernel)
            | lt w _ _ => cases w <;> exact absurd (show _ = Str.ofString "fn" from hw) (by show ¬ (Str.ofString _ = Str.ofString "fn"); decide +kernel)
            | dw w _ => cases w <;> exact absurd (show _ = Str.ofString "fn" from hw) (by show ¬ (Str.ofString _ = Str.ofString "fn"); decide +kernel)
        obtain ⟨a2, r, u, e2, h4, h5, _⟩ := show LV H1 (.ref a) (.fn g qs tr) from hv
        cases e2
        refine ⟨_, rfl, a, _, _, _, rfl, rfl, SqT.of h4, atI_nat (j := 2) rfl, r, _, rfl, .inr (SqT.of h5), _, rfl, rfl, _, rfl, ?_⟩
        have q : ∀ H' v, Same H H' → optV H' (FltV H') v (if qs.length = k then none else some ⟨"count", m, x⟩) → Q v H' := q
        rw [List.length_map]
        by_cases hk : qs.length = k
        · refine iteT' (by rw [hk]; simp) (q _ _ s1 ?_)
          rw [if_pos hk]
          rfl
        · refine iteF' (decide_eq_false fun z => hk (by injection z with z; omega)) ⟨_, rfl, p, C, dx, _, _, rfl, s1 _ _ h1, SC.cl, SC.nm, sF_m, _, rfl, three_le, fun u nu => ?_⟩
          refine q _ _ (Same.up s1 nu) ?_
          rw [if_neg hk]
          exact ⟨u, rfl, upd_same⟩
      · refine iteT' (by simp [hw]) ⟨_, rfl, p, C, dx, _, _, rfl, s1 _ _ h1, SC.cl, SC.nm, sF_m, _, rfl, three_le, fun u nu => no (fin hw) u nu⟩
end
end K3

set_option maxRecDepth 100000
set_option maxHeartbeats 4000000
/-! the top of a tree, a tree -/
namespace K3
open PySem hiding Tok code
open PySem.Spec PyProof.Rows GD K1
open L2 hiding rest
open K2 hiding Sp P
section
variable {P : Program} {w : World} {K : PySem.W.Frag} {mg : Str → Option Value} {base : Heap} {C : Addr}
theorem TV.top {H : Hp} {t : Tr} {u : V} (ms : Mods) (m : NM) (ps : List NM) (h : TV H t u) : (∃ x, t = .name x) ∨ (∃ x r, t = .set x r) ∨ (∃ x as, t = .call x as) ∨
    ∃ a wd xs, u = .ref a ∧ H a = some (.tup (.str wd :: xs)) ∧ wd ≠ "name" ∧ wd ≠ "set" ∧ wd ≠ "call" ∧ topF ms m ps t = none := by
  have key : ∀ {a wd xs}, u = .ref a → H a = some (.tup (.str wd :: xs)) → (decide (wd = ("name" : Str)) || decide (wd = ("set" : Str)) || decide (wd = ("call" : Str))) = false → topF ms m ps t = none → ∃ a wd xs, u = .ref a ∧ H a = some (.tup (.str wd :: xs)) ∧ wd ≠ "name" ∧ wd ≠ "set" ∧ wd ≠ "call" ∧ topF ms m ps t = none := fun e1 e2 e3 e4 => by
    rw [Bool.or_eq_false_iff, Bool.or_eq_false_iff] at e3
    exact ⟨_, _, _, e1, e2, of_decide_eq_false e3.1.1, of_decide_eq_false e3.1.2, of_decide_eq_false e3.2, e4⟩
  cases t with
  | num n =>
    rw [TV] at h
    obtain ⟨q, e, h⟩ := h
    exact .inr (.inr (.inr (key e h (by decide +kernel) rfl)))
  | str l =>
    rw [TV] at h
    obtain ⟨q, e, h⟩ := h
    exact .inr (.inr (.inr (key e h (by decide +kernel) rfl)))
  | name x => exact .inl ⟨x, rfl⟩
  | call x as => exact .inr (.inr (.inl ⟨x, as, rfl⟩))
  | ite a b c =>
    rw [TV] at h
    obtain ⟨q, _, _, _, e, h, _⟩ := h
    exact .inr (.inr (.inr (key e h (by decide +kernel) rfl)))
  | set x r => exact .inr (.inl ⟨x, r, rfl⟩)
  | seq a b =>
    rw [TV] at h
    obtain ⟨q, _, _, e, h, _⟩ := h
    exact .inr (.inr (.inr (key e h (by decide +kernel) rfl)))
  | op c a b =>
    rw [TV] at h
    obtain ⟨q, _, _, e, h, _, _, hc⟩ := h
    refine .inr (.inr (.inr (key e h ?_ rfl)))
    have : ∀ c ∈ [42, 43, 45, 60, 61], (decide (S [c] = ("name" : Str)) || decide (S [c] = ("set" : Str)) || decide (S [c] = ("call" : Str))) = false := by decide +kernel
    exact this c hc
theorem optF_imp {H H' : Hp} (k : ∀ q xs, H q = some (.tup xs) → H' q = some (.tup xs)) {v : V} {o : Option Flt} (h : optV H (FltV H) v o) : optV H' (FltV H') v o := by
  cases o with
  | none => exact h
  | some f =>
    obtain ⟨q, e, h⟩ := h
    exact ⟨q, e, k _ _ h⟩
theorem hgtL_mem : ∀ {as : List Tr} {t : Tr}, t ∈ as → hgt t ≤ hgtL as
  | a :: as, t, h => by
    rw [hgtL]
    rcases List.mem_cons.mp h with rfl | h
    · exact Nat.le_max_left _ _
    · exact Nat.le_trans (hgtL_mem h) (Nat.le_max_right _ _)
theorem kids_hgt {t k : Tr} (h : k ∈ kids t) : hgt k + 1 ≤ hgt t := by
  cases t with
  | num n => cases h
  | str l => cases h
  | name x => cases h
  | call x as => rw [hgt]; have := hgtL_mem (show k ∈ as from h); omega
  | ite a b c =>
    rw [hgt]
    simp only [kids, List.mem_cons, List.not_mem_nil, or_false] at h
    rcases h with rfl | rfl | rfl <;> omega
  | set x r =>
    rw [hgt]
    simp only [kids, List.mem_cons, List.not_mem_nil, or_false] at h
    rw [h]; omega
  | seq a b =>
    rw [hgt]
    simp only [kids, List.mem_cons, List.not_mem_nil, or_false] at h
    rcases h with rfl | rfl <;> omega
  | op c a b =>
    rw [hgt]
    simp only [kids, List.mem_cons, List.not_mem_nil, or_false] at h
    rcases h with rfl | rfl <;> omega
def spTop (C : Addr) : L2.Sp := fun vs H Q _ => ∃ (p dm : Addr) (ms : Mods) (m : NM) (ps : List NM) (u : V) (t : Tr), vs = [.ref p, u] ∧ SA C H p dm ms m ps ∧ AvOK ms m ∧ TV H t u ∧
  ∀ H' v, Same H H' → optV H' (FltV H') v (topF ms m ps t) → Q v H'
theorem scTop : FnScope ["self", "tree"] ["self", "tree"] (defScope mTop) := ⟨rfl, rfl, rfl, by decide +kernel, rfl, by decide +kernel, by decide +kernel⟩
theorem ok_top {f f1 f2 : Addr} {fd fd1 fd2 : FuncData} (F : Fun K "fault_at_top" "Scope.fault_at_top" mTop f fd) (T : Txt K mg) (SC : TxS K mg C)
    (GV : MO P w K mg base C 5 "fault_of_variable" ["self", "name", "kinds"] (spVar C) f1 fd1) (GC : MO P w K mg base C 5 "fault_of_call" ["self", "name", "many"] (spCallF C) f2 fd2) : FnOk P w K mg base CX0 6 f fd ["self", "tree"] (spTop C) := by
  have sc := scTop
  refine F.ok sc (fun vs H Q E h => ?_) (fun cdv A outer s H vs Q E hr h => ?_)
  · obtain ⟨p, dm, ms, m, ps, u, t, rfl, _⟩ := h
    rfl
  · obtain ⟨p, dm, ms, m, ps, u, t, rfl, hs, av, tv, q⟩ := h
    refine ⟨_, (pss_cons (ps_if (pt_cmpR op_eq (pe_ix ix_tup (pv 1) pe_int (fun _ _ => rfl)) pe_str (nomark _))
      (pss_one (ps_ret (pe_meth (pv 0) SC.cl GV.mt GV.ok hr GV.b .nil pass0 (pa_cons (pe_ix ix_tup (pv 1) pe_int (fun _ _ => rfl)) (pa_cons (pe_tup (pa_cons pe_str (pa_cons pe_str (pa_cons pe_str pa_nil)))) pa_nil)))))
      pss_nil)
      (pss_cons (ps_if (pt_cmpR op_eq (pe_ix ix_tup (pv 1) pe_int (fun _ _ => rfl)) pe_str (nomark _))
      (pss_one (ps_ret (pe_meth (pv 0) SC.cl GV.mt GV.ok hr GV.b .nil pass0 (pa_cons (pe_ix ix_tup (pv 1) pe_int (fun _ _ => rfl)) (pa_cons (pe_tup (pa_cons pe_str (pa_cons pe_str pa_nil))) pa_nil)))))
      pss_nil)
      (pss_cons (ps_if (pt_cmpR op_eq (pe_ix ix_tup (pv 1) pe_int (fun _ _ => rfl)) pe_str (nomark _))
      (pss_one (ps_ret (pe_meth (pv 0) SC.cl GC.mt GC.ok hr GC.b .nil pass0 (pa_cons (pe_ix ix_tup (pv 1) pe_int (fun _ _ => rfl)) (pa_cons (pe_callB call_len_seq (by rfl) T.len (by decide +kernel) (pa_cons (pe_ix ix_tup (pv 1) pe_int (fun _ _ => rfl)) pa_nil)) pa_nil)))))
      pss_nil)
      (pss_one (ps_ret pe_non))))), ?_⟩
    obtain ⟨dx, pr, h1, h2, h3⟩ := hs.ex
    have no : ∀ {a b : Str}, a ≠ b → decide (V.str a = V.str b) = false := fun h => decide_eq_false fun z => h (by injection z)
    rcases TV.top ms m ps tv with ⟨x, rfl⟩ | ⟨x, r, rfl⟩ | ⟨x, as, rfl⟩ | ⟨a, wd, xs, rfl, ha, n1, n2, n3, ht⟩
    · rw [TV] at tv
      obtain ⟨a, rfl, ha⟩ := tv
      refine ⟨_, rfl, a, _, _, _, rfl, rfl, SqT.of ha, atI_nat (j := 0) rfl, rfl, _, rfl, iteT ?_⟩
      refine ⟨_, rfl, p, dx, _, rfl, h1, sF_no (f := "fault_of_variable") (by decide +kernel), _, rfl, a, _, _, _, rfl, rfl, SqT.of ha, atI_nat (j := 1) rfl, three_le, fun k nk => ?_⟩
      have s1 := Same.lst (o := .tup [.str "let", .str "keep", .str "parameter"]) (Same.refl H) nk
      exact ⟨p, dm, ms, m, ps, x, k, true, rfl, hs.same s1, av, upd_same, fun H' v s2 hv => q _ _ (fun z o e => s2 _ _ (s1 _ _ e)) hv⟩
    · rw [TV] at tv
      obtain ⟨a, a2, rfl, ha, _⟩ := tv
      refine ⟨_, rfl, a, _, _, _, rfl, rfl, SqT.of ha, atI_nat (j := 0) rfl, rfl, _, rfl, iteF ?_⟩
      refine ⟨_, rfl, a, _, _, _, rfl, rfl, SqT.of ha, atI_nat (j := 0) rfl, rfl, _, rfl, iteT ?_⟩
      refine ⟨_, rfl, p, dx, _, rfl, h1, sF_no (f := "fault_of_variable") (by decide +kernel), _, rfl, a, _, _, _, rfl, rfl, SqT.of ha, atI_nat (j := 1) rfl, two_le, fun k nk => ?_⟩
      have s1 := Same.lst (o := .tup [.str "let", .str "keep"]) (Same.refl H) nk
      exact ⟨p, dm, ms, m, ps, x, k, false, rfl, hs.same s1, av, upd_same, fun H' v s2 hv => q _ _ (fun z o e => s2 _ _ (s1 _ _ e)) hv⟩
    · rw [TV] at tv
      obtain ⟨a, a2, ws, rfl, ha, ha2, tvs, _⟩ := tv
      refine ⟨_, rfl, a, _, _, _, rfl, rfl, SqT.of ha, atI_nat (j := 0) rfl, rfl, _, rfl, iteF ?_⟩
      refine ⟨_, rfl, a, _, _, _, rfl, rfl, SqT.of ha, atI_nat (j := 0) rfl, rfl, _, rfl, iteF ?_⟩
      refine ⟨_, rfl, a, _, _, _, rfl, rfl, SqT.of ha, atI_nat (j := 0) rfl, rfl, _, rfl, iteT ?_⟩
      refine ⟨_, rfl, p, dx, _, rfl, h1, sF_no (f := "fault_of_call") (by decide +kernel), _, rfl, a, _, _, _, rfl, rfl, SqT.of ha, atI_nat (j := 1) rfl, _, rfl, a, _, _, _, rfl, rfl, SqT.of ha, atI_nat (j := 2) rfl, a2, ws, rfl, .inr (SqT.of ha2), ?_⟩
      refine ⟨p, dm, ms, m, ps, x, as.length, by rw [TVs.len tvs]; rfl, hs, av, fun H' v s2 hv => q _ _ s2 hv⟩
    · rw [ht] at q
      refine ⟨_, rfl, a, _, _, _, rfl, rfl, SqT.of ha, atI_nat (j := 0) rfl, rfl, _, rfl, iteF' (no n1) ?_⟩
      refine ⟨_, rfl, a, _, _, _, rfl, rfl, SqT.of ha, atI_nat (j := 0) rfl, rfl, _, rfl, iteF' (no n2) ?_⟩
      refine ⟨_, rfl, a, _, _, _, rfl, rfl, SqT.of ha, atI_nat (j := 0) rfl, rfl, _, rfl, iteF' (no n3) ?_⟩
      exact q _ _ (Same.refl _) rfl
def spFault (C : Addr) (n : Nat) : L2.Sp := fun vs H Q _ => ∃ (p dm : Addr) (ms : Mods) (m : NM) (ps : List NM) (u : V) (t : Tr), vs = [.ref p, u] ∧ SA C H p dm ms m ps ∧ AvOK ms m ∧ TV H t u ∧ hgt t ≤ n ∧
  ∀ H' v, Same H H' → optV H' (FltV H') v (tf ms m ps t) → Q v H'
theorem hgt_pos (t : Tr) : 1 ≤ hgt t := by cases t <;> rw [hgt] <;> omega
theorem no_fault {vs : List V} {H : Hp} {Q : VK} {E : XK} (h : spFault C 0 vs H Q E) : False := by
  obtain ⟨p, dm, ms, m, ps, u, t, _, _, _, _, h, _⟩ := h
  have := hgt_pos t
  omega
theorem scFault : FnScope ["self", "tree", "found", "part"] ["self", "tree"] (defScope mFault) := ⟨rfl, rfl, rfl, by decide +kernel, rfl, by decide +kernel, by decide +kernel⟩
theorem ok_fault1 {n : Nat} {f f1 f2 : Addr} {fd fd1 fd2 : FuncData} (F : Fun K "fault" "Scope.fault" mFault f fd) (SC : TxS K mg C) (mt : Meth K C "fault" f) (bi : Binds K fd ["self", "tree"] [])
    (GT : MO P w K mg base C 6 "fault_at_top" ["self", "tree"] (spTop C) f1 fd1) (FP : FO P w K mg base CX0 1 "parts_of" ["tree"] spParts f2 fd2)
    (FT : FnOk P w K mg base CX0 (6 + n) f fd ["self", "tree"] (spFault C n)) : FnOk P w K mg base CX0 (6 + n + 1) f fd ["self", "tree"] (spFault C (n + 1)) := by
  have sc := scFault
  refine F.ok sc (fun vs H Q E h => ?_) (fun cdv A outer s H vs Q E hr h => ?_)
  · obtain ⟨p, dm, ms, m, ps, u, t, rfl, _⟩ := h
    rfl
  · obtain ⟨p, dm, ms, m, ps, u, t, rfl, hs, av, tv, hn, q⟩ := h
    refine ⟨_, (pss_cons (ps_set (i := 2) sc.nd rfl (Or.inl rfl) (pe_meth (pv 0) SC.cl GT.mt GT.ok (hr.mono (by omega)) GT.b .nil pass0 (pa_cons (pv 1) pa_nil)))
      (pss_cons (ps_for PassesOwn.never rfl (pi_tup (pe_call FP.ok (hr.mono (by omega)) (by rfl) FP.m FP.kp FP.b .nil pass0 (pa_cons (pv 1) pa_nil))) (pg_name (i := 3) sc.nd rfl (Or.inl rfl))
      (pss_one (ps_if (pt_cmpR op_isN (pv 2) pe_non (nomark _))
      (pss_one (ps_set (i := 2) sc.nd rfl (Or.inl rfl) (pe_meth (pv 0) SC.cl mt FT hr bi .nil pass0 (pa_cons (pv 3) pa_nil))))
      pss_nil)))
      (pss_one (ps_ret (pv 2))))), ?_⟩
    obtain ⟨dx, pr, h1, h2, h3⟩ := hs.ex
    refine ⟨_, rfl, p, dx, _, rfl, h1, sF_no (f := "fault_at_top") (by decide +kernel), _, rfl, p, dm, ms, m, ps, u, t, rfl, hs, av, tv, fun H1 v s1 hv => ?_⟩
    have tv1 := TV.imp (same_tup s1) t u tv
    refine ⟨_, rfl, u, t, rfl, tv1, fun H2 k ws s2 hk tvs hl => ?_⟩
    have s02 : Same H H2 := fun z o e => s2 _ _ (s1 _ _ e)
    have lw := TVs.len tvs
    refine ⟨k, rfl, ⟨_, SqT.of hk⟩, for_tup (K := K) (a := k) (xs := ws) (fun i σ H' => ∃ (v : V) (y3 : Option V), σ = [some (.ref p), some u, some v, y3] ∧ Same H2 H' ∧ optV H' (FltV H') v ((topF ms m ps t).or (tfL ms m ps ((kids t).take i))))
      ⟨v, none, rfl, Same.refl _, ?_⟩ (fun i σ H' _ hI => ?_) (fun i x σ H' hx hI => ?_) (fun σ H' hI => ?_)⟩
    · rw [List.take_zero, tfL, Option.or_none]
      exact optF_imp (same_tup s2) hv
    · obtain ⟨v, y3, rfl, s3, _⟩ := hI
      exact SqT.of (s3 _ _ hk)
    · obtain ⟨v, y3, rfl, s3, hv⟩ := hI
      obtain ⟨c, hc, tc⟩ := TVs.get tvs hx
      have tk : (kids t).take (i + 1) = (kids t).take i ++ [c] := by rw [List.take_add_one, hc]; rfl
      refine ⟨_, rfl, rfl, _, rfl, ?_⟩
      rw [optF_non hv]
      cases ho : (topF ms m ps t).or (tfL ms m ps ((kids t).take i)) with
      | some fl =>
        rw [ho] at hv
        refine iteF ⟨v, _, rfl, s3, ?_⟩
        rw [tk, tfL_app, ← Option.or_assoc, ho]
        exact hv
      | none =>
        refine iteT ?_
        have hc1 := kids_hgt (List.mem_of_getElem? hc)
        refine ⟨_, rfl, p, dx, _, rfl, s3 _ _ (s02 _ _ h1), sF_no (f := "fault") (by decide +kernel), _, rfl, p, dm, ms, m, ps, x, c, rfl, (hs.same s02).same s3, av, TV.imp (same_tup s3) c x tc, by omega, fun H4 u4 s4 hu => ?_⟩
        refine ⟨u4, _, rfl, fun z o e => s4 _ _ (s3 _ _ e), ?_⟩
        rw [tk, tfL_app, ← Option.or_assoc, ho, tfL, tfL, Option.or_none, Option.none_or]
        exact hu
    · obtain ⟨v, y3, rfl, s3, hv⟩ := hI
      rw [lw, List.take_length, ← tf_kids] at hv
      exact ⟨_, rfl, q _ _ (fun z o e => s3 _ _ (s02 _ _ e)) hv⟩
theorem ok_fault {f f1 f2 : Addr} {fd fd1 fd2 : FuncData} (F : Fun K "fault" "Scope.fault" mFault f fd) (SC : TxS K mg C) (mt : Meth K C "fault" f) (bi : Binds K fd ["self", "tree"] [])
    (GT : MO P w K mg base C 6 "fault_at_top" ["self", "tree"] (spTop C) f1 fd1) (FP : FO P w K mg base CX0 1 "parts_of" ["tree"] spParts f2 fd2) : ∀ n, FnOk P w K mg base CX0 (6 + n) f fd ["self", "tree"] (spFault C n)
  | 0 => ⟨fun vs H Q E h => (no_fault h).elim, fun A outer s H args us vs Q E hr e b v h => (no_fault h).elim⟩
  | n + 1 => ok_fault1 F SC mt bi GT FP (ok_fault F SC mt bi GT FP n)
end
end K3

set_option maxRecDepth 100000
set_option maxHeartbeats 4000000
/-! faults of listings, lines, modules -/
namespace K3
open PySem hiding Tok code
open PySem.Spec PyProof.Rows GD K1
open L2 hiding rest
open K2 hiding Sp P
abbrev sChkN : Stmt := topS 11
abbrev sFLine : Stmt := topS 12
abbrev sFLst : Stmt := topS 13
def lstF (ms : Mods) (t : NM) (p : NM × NM) : Option Flt := if (turns ms 100 (t, p.1)).isNone = true then some ⟨"name", t, p.1⟩ else none
def lf (ms : Mods) (m : NM) : Ln → Option Flt
  | .lst _ ps t => ps.findSome? (lstF ms t)
  | .lt _ _ t => tf ms m [] t
  | .fn _ ps t => tf ms m ps t
  | .dw _ t => tf ms m [] t
def nf (ms : Mods) (ord : List NM) : Option Flt := ord.findSome? fun m => (linesOf ms m).findSome? (lf ms m)
/-- what lines may be like -/
def LineC : Ln → Prop
  | .lst _ ps t => ∀ p ∈ ps, smP (t, p.1)
  | .lt _ _ t => hgt t ≤ 12
  | .fn _ _ t => hgt t ≤ 12
  | .dw _ t => hgt t ≤ 12
theorem fs_none {α β : Type} {f : α → Option β} {l : List α} {i : Nat} {x : α} (h : l[i]? = some x) (n : f x = none) (e : l.findSome? f = (l.drop i).findSome? f) : l.findSome? f = (l.drop (i + 1)).findSome? f := by
  obtain ⟨h1, h2⟩ := List.getElem?_eq_some_iff.mp h
  rw [e, List.drop_eq_getElem_cons h1, h2, List.findSome?_cons, n]
theorem fs_some {α β : Type} {f : α → Option β} {l : List α} {i : Nat} {x : α} {y : β} (h : l[i]? = some x) (n : f x = some y) (e : l.findSome? f = (l.drop i).findSome? f) : l.findSome? f = some y := by
  obtain ⟨h1, h2⟩ := List.getElem?_eq_some_iff.mp h
  rw [e, List.drop_eq_getElem_cons h1, h2, List.findSome?_cons, n]
theorem fs_end {α β : Type} {f : α → Option β} {l : List α} {n : Nat} (h : l.length ≤ n) (e : l.findSome? f = (l.drop n).findSome? f) : l.findSome? f = none := by
  rw [e, List.drop_of_length_le h]
  rfl
def psOf : Ln → List NM
  | .fn _ ps _ => ps
  | _ => []
def trOf : Ln → Option Tr
  | .lst _ _ _ => none
  | .lt _ _ t => some t
  | .fn _ _ t => some t
  | .dw _ t => some t
theorem gn {i : Nat} {v : V} {σ : L2.St} {H : Hp} {Q : L2.St → Hp → Prop} (h : Q (σ.set i (some v)) H) : gName i v σ H Q := h
theorem nxp {u b c : L2.St → Hp → Prop} {r : VK} {σ : L2.St} {H : Hp} (h : u σ H) : (⟨u, r, b, c⟩ : Ends).nx σ H := h
theorem seq_mid {A B : TS} {D : Ends} {σ : L2.St} {H : Hp} (M : L2.St → Hp → Prop) (h2 : ∀ σ' H', M σ' H' → B D σ' H') (h1 : (∀ σ' H', M σ' H' → B D σ' H') → tSeq A B D σ H) : tSeq A B D σ H := h1 h2
theorem LV.body {H : Hp} {v : V} {l : Ln} {t : Tr} (h : LV H v l) (e : trOf l = some t) : ∃ q xs u, v = .ref q ∧ H q = some (.tup ((.str (lnW l) :: xs) ++ [u])) ∧ TV H t u ∧ (lnT l).isSome = false ∧ ((∃ g ps, l = .fn g ps t ∧ ∃ r, xs[1]? = some (.ref r) ∧ H r = some (.tup (sts ps))) ∨ (lnW l ≠ "fn" ∧ psOf l = [])) := by
  cases l with
  | lst _ _ _ => cases e
  | lt k x t' =>
    cases e
    obtain ⟨q, u, e, h1, h2⟩ := h
    exact ⟨q, [.str (S x)], u, e, h1, h2, rfl, .inr ⟨by cases k <;> (show ¬ (Str.ofString _ = Str.ofString "fn")) <;> decide, rfl⟩⟩
  | fn g ps t' =>
    cases e
    obtain ⟨q, r, u, e, h1, h2, h3⟩ := h
    exact ⟨q, [.str (S g), .ref r], u, e, h1, h3, rfl, .inl ⟨g, ps, rfl, r, rfl, h2⟩⟩
  | dw k t' =>
    cases e
    obtain ⟨q, u, e, h1, h2⟩ := h
    exact ⟨q, [], u, e, h1, h2, rfl, .inr ⟨by cases k <;> (show ¬ (Str.ofString _ = Str.ofString "fn")) <;> decide, rfl⟩⟩
theorem lf_tree {ms : Mods} {m : NM} {l : Ln} {t : Tr} (e : trOf l = some t) : lf ms m l = tf ms m (psOf l) t ∧ (LineC l → hgt t ≤ 12) := by
  cases l with
  | lst _ _ _ => cases e
  | lt k x t' => cases e; exact ⟨rfl, id⟩
  | fn g ps t' => cases e; exact ⟨rfl, id⟩
  | dw k t' => cases e; exact ⟨rfl, id⟩
section
variable {P : Program} {w : World} {K : PySem.W.Frag} {mg : Str → Option Value} {base : Heap} {C : Addr}
def spFLst : L2.Sp := fun vs H Q _ => ∃ (dm : Addr) (ms : Mods) (m : NM) (v : V) (wd : Bool) (ps : List (NM × NM)) (t : NM), vs = [.ref dm, v] ∧ MD H dm ms ∧ AvOK ms m ∧ LV H v (.lst wd ps t) ∧ LineC (.lst wd ps t) ∧
  ∀ H' u, Same H H' → optV H' (FltV H') u (ps.findSome? (lstF ms t)) → Q u H'
theorem scFLst : FnScope ["modules", "line", "there", "_"] ["modules", "line"] (defScope sFLst) := ⟨rfl, rfl, rfl, by decide +kernel, rfl, by decide +kernel, by decide +kernel⟩
theorem ok_flst {f f1 : Addr} {fd fd1 : FuncData} (F : Fun K "fault_of_listing" "fault_of_listing" sFLst f fd) (FF : FO P w K mg base CX0 2 "follow" ["modules", "module", "name"] spFol f1 fd1) : FnOk P w K mg base CX0 3 f fd ["modules", "line"] spFLst := by
  have sc := scFLst
  refine F.ok sc (fun vs H Q E h => ?_) (fun cdv A outer s H vs Q E hr h => ?_)
  · obtain ⟨dm, ms, m, v, wd, ps, t, rfl, _⟩ := h
    rfl
  · obtain ⟨dm, ms, m, v, wd, ps, t, rfl, hM, av, lv, lc, q⟩ := h
    refine ⟨_, (pss_cons (ps_for PassesOwn.never rfl (pi_tup (pe_ix ix_tup (pv 1) pe_int (fun _ _ => rfl))) (pg_tup rfl (pgs_cons (pg_name (i := 2) sc.nd rfl (Or.inl rfl)) (pgs_cons (pg_name (i := 3) sc.nd rfl (Or.inl rfl)) pgs_nil)))
      (pss_one (ps_if (pt_cmpR op_isN (pe_call FF.ok hr (by rfl) FF.m FF.kp FF.b .nil pass0 (pa_cons (pv 0) (pa_cons (pe_ix ix_tup (pv 1) pe_int (fun _ _ => rfl)) (pa_cons (pv 2) pa_nil)))) pe_non (nomark _))
      (pss_one (ps_ret (pe_tup (pa_cons pe_str (pa_cons (pe_ix ix_tup (pv 1) pe_int (fun _ _ => rfl)) (pa_cons (pv 2) pa_nil))))))
      pss_nil)))
      (pss_one (ps_ret pe_non))), ?_⟩
    obtain ⟨a, r, us, rfl, h1, h2, pl⟩ := lv
    refine ⟨_, rfl, a, _, _, _, rfl, rfl, SqT.of h1, atI_nat (j := 1) rfl, r, rfl, ⟨_, SqT.of h2⟩, for_tup (K := K) (a := r) (xs := us) (fun i σ H' => ∃ (y2 y3 : Option V), σ = [some (.ref dm), some (.ref a), y2, y3] ∧ Same H H' ∧ ps.findSome? (lstF ms t) = (ps.drop i).findSome? (lstF ms t))
      ⟨none, none, rfl, Same.refl _, rfl⟩ (fun i σ H' _ hI => ?_) (fun i x σ H' hx hI => ?_) (fun σ H' hI => ?_)⟩
    · obtain ⟨y2, y3, rfl, s1, _⟩ := hI
      exact SqT.of (s1 _ _ h2)
    · obtain ⟨y2, y3, rfl, s1, he⟩ := hI
      obtain ⟨pr, hpr, b, rfl, hb⟩ := pairGetR pl hx
      have sm := lc pr (List.mem_of_getElem? hpr)
      refine ⟨b, _, rfl, .inl (.inl (s1 _ _ hb)), rfl, _, _, rfl, _, _, rfl, rfl, ?_⟩
      refine ⟨_, rfl, _, rfl, a, _, _, _, rfl, rfl, SqT.of (s1 _ _ h1), atI_nat (j := 2) rfl, _, rfl, dm, ms, t, pr.1, rfl, hM.same s1, av.t90, sm, av.tg, fun H2 u s2 hu => ?_⟩
      have s02 : Same H H2 := fun z o e => s2 _ _ (s1 _ _ e)
      refine ⟨rfl, _, rfl, ?_⟩
      rw [optP_non hu]
      cases ht : (turns ms 100 (t, pr.1)).isNone with
      | true =>
        have el : lstF ms t pr = some ⟨"name", t, pr.1⟩ := if_pos ht
        refine iteT ⟨_, rfl, a, _, _, _, rfl, rfl, SqT.of (s02 _ _ h1), atI_nat (j := 2) rfl, _, rfl, three_le, fun z nz => q _ _ (Same.up s02 nz) ?_⟩
        rw [fs_some hpr el he]
        exact ⟨z, rfl, upd_same⟩
      | false =>
        have el : lstF ms t pr = none := if_neg (by rw [ht]; decide)
        exact iteF ⟨_, _, rfl, s02, fs_none hpr el he⟩
    · obtain ⟨y2, y3, rfl, s1, he⟩ := hI
      refine q _ _ s1 ?_
      rw [fs_end (Nat.le_of_eq (Paired.length pl).symm) he]
      rfl
def spFLine : L2.Sp := fun vs H Q _ => ∃ (dm : Addr) (ms : Mods) (m : NM) (v : V) (l : Ln), vs = [.ref dm, .str (S m), v] ∧ MD H dm ms ∧ AvOK ms m ∧ LV H v l ∧ LineC l ∧
  ∀ H' u, Same H H' → optV H' (FltV H') u (lf ms m l) → Q u H'
theorem scFLine : FnScope ["modules", "module", "line", "parameters"] ["modules", "module", "line"] (defScope sFLine) := ⟨rfl, rfl, rfl, by decide +kernel, rfl, by decide +kernel, by decide +kernel⟩
theorem ok_fline {f f0 f1 f2 aL : Addr} {fd fd0 fd1 fd2 : FuncData} (F : Fun K "fault_of_line" "fault_of_line" sFLine f fd) (SC : TxS K mg C) (gO : mg "LISTING" = some (.ref aL)) (kO : ∀ H, SqT K H aL LISTv)
    (FL : FO P w K mg base CX0 3 "fault_of_listing" ["modules", "line"] spFLst f1 fd1) (MS : Mk K C f0) (bS : Binds K fd0 ["self", "modules", "module", "parameters"] []) (OS : FnOk P w K mg base CX0 1 f0 fd0 ["self", "modules", "module", "parameters"] (spSInit C))
    (GF : MO P w K mg base C 18 "fault" ["self", "tree"] (spFault C 12) f2 fd2) : FnOk P w K mg base CX0 19 f fd ["modules", "module", "line"] spFLine := by
  have sc := scFLine
  refine F.ok sc (fun vs H Q E h => ?_) (fun cdv A outer s H vs Q E hr h => ?_)
  · obtain ⟨dm, ms, m, v, l, rfl, _⟩ := h
    rfl
  · obtain ⟨dm, ms, m, v, l, rfl, hM, av, lv, lc, q⟩ := h
    refine ⟨_, (pss_cons (ps_if (pt_cmpR op_in_seq (pe_ix ix_tup (pv 2) pe_int (fun _ _ => rfl)) (pe_glob (v := .ref aL) rfl gO rfl) rfl)
      (pss_one (ps_ret (pe_call FL.ok (hr.mono (by decide)) (by rfl) FL.m FL.kp FL.b .nil pass0 (pa_cons (pv 0) (pa_cons (pv 2) pa_nil)))))
      pss_nil)
      (pss_cons (ps_set (i := 3) sc.nd rfl (Or.inl rfl) (pe_ifExp (pt_cmpR op_eq (pe_ix ix_tup (pv 2) pe_int (fun _ _ => rfl)) pe_str (nomark _)) (pe_ix ix_tup (pv 2) pe_int (fun _ _ => rfl)) (pe_tup pa_nil)))
      (pss_one (ps_ret (pe_meth (pe_make MS OS (hr.mono (by decide)) rfl SC.gS bS .nil pass0 (pa_cons (pv 0) (pa_cons (pv 1) (pa_cons (pv 3) pa_nil)))) SC.cl GF.mt GF.ok hr GF.b .nil pass0 (pa_cons (pe_ix ix_tup (pv 2) (pe_un un_neg pe_int) (fun _ _ => rfl)) pa_nil)))))), ?_⟩
    have hd := LV.hd lv
    obtain ⟨a, xs, rfl, ha, _⟩ := hd
    refine ⟨_, rfl, a, _, _, _, rfl, rfl, SqT.of ha, atI_nat (j := 0) rfl, aL, _, rfl, .inr (kO H), rfl, rfl, _, rfl, ?_⟩
    rw [show (if false = true then !inV (V.str (lnW l)) LISTv else inV (V.str (lnW l)) LISTv) = (lnT l).isSome from list_in l]
    cases htr : trOf l with
    | none =>
      cases l with
      | lst wd ps t => exact iteT ⟨_, rfl, _, rfl, dm, ms, m, .ref a, wd, ps, t, rfl, hM, av, lv, lc, q⟩
      | lt _ _ _ => cases htr
      | fn _ _ _ => cases htr
      | dw _ _ => cases htr
    | some t =>
      obtain ⟨el, h12⟩ := lf_tree (ms := ms) (m := m) htr
      rw [el] at q
      obtain ⟨a', ys, u, ea, ha', tv, hT, hp⟩ := LV.body lv htr
      cases ea
      rw [hT]
      refine iteF ?_
      refine nxp ?_
      refine seq_mid (A := tAsg _ _) (fun σ' H' => ∃ pr, σ' = [some (.ref dm), some (.str (S m)), some (.ref a), some (.ref pr)] ∧ Same H H' ∧ H' pr = some (.tup (sts (psOf l)))) ?_ (fun mid => ?_)
      rotate_left
      · refine ⟨_, rfl, a, _, _, _, rfl, rfl, SqT.of ha, atI_nat (j := 0) rfl, rfl, _, rfl, ?_⟩
        rcases hp with ⟨g, ps, rfl, r, hr1, hr2⟩ | ⟨hw, hps⟩
        · refine iteT' rfl ⟨_, rfl, a, _, _, _, rfl, rfl, SqT.of ha', atI_nat (j := 2) (v := .ref r) ?_, mid _ _ ⟨r, rfl, Same.refl _, hr2⟩⟩
          show (ys ++ [u])[1]? = some (V.ref r)
          rw [List.getElem?_append_left (List.getElem?_eq_some_iff.mp hr1).1]
          exact hr1
        · refine iteF' (by simp [hw]) ⟨Nat.zero_le _, fun z nz => mid _ _ ⟨z, rfl, Same.lst (Same.refl _) nz, ?_⟩⟩
          rw [hps]
          exact upd_same
      rintro σ' H1 ⟨pr, rfl, s1, hpr⟩
      refine ⟨_, rfl, _, rfl, _, rfl, fun x dx nx ndx nex => ?_⟩
      have old : ∀ b o, H1 b = some o → upd (upd H1 dx (.own x)) x (.ins C dx []) b = some o := fun b o hb => by rw [upd_ne (ne_of_none hb nx), upd_ne (ne_of_none hb ndx)]; exact hb
      refine ⟨x, dx, dm, m, pr, rfl, upd_same, by rw [upd_ne nex]; exact upd_same, fun H2 g1 g2 => ⟨rfl, ?_⟩⟩
      have s2 : Same H1 H2 := fun b o hb => by rw [g2 b (ne_of_none hb nx)]; exact old b o hb
      have s02 : Same H H2 := fun z o e => s2 _ _ (s1 _ _ e)
      refine ⟨x, dx, _, rfl, g1, sF_no (f := "fault") (by decide +kernel), _, rfl, _, rfl, a, _, _, u, rfl, rfl, SqT.of (s02 _ _ ha'), atI_last _ _, ?_⟩
      exact ⟨x, dm, ms, m, psOf l, u, t, rfl, ⟨dx, pr, g1, s2 _ _ hpr, hM.same s02⟩, av, TV.imp (same_tup s02) t u tv, h12 lc, fun H' v s3 hv => q _ _ (fun z o e => s3 _ _ (s02 _ _ e)) hv⟩
def spChkN : L2.Sp := fun vs H Q _ => ∃ (dm e : Addr) (ms : Mods) (ord : List NM), vs = [.ref dm, .ref e] ∧ MD H dm ms ∧ H e = some (.tup (sts ord)) ∧ (∀ m ∈ ord, (mget ms m).isSome = true ∧ AvOK ms m ∧ ∀ l ∈ linesOf ms m, LineC l) ∧
  ∀ H' u, Same H H' → optV H' (FltV H') u (nf ms ord) → Q u H'
theorem scChkN : FnScope ["modules", "order", "module", "line", "fault"] ["modules", "order"] (defScope sChkN) := ⟨rfl, rfl, rfl, by decide +kernel, rfl, by decide +kernel, by decide +kernel⟩
theorem ok_chkN {f f1 : Addr} {fd fd1 : FuncData} (F : Fun K "check_names" "check_names" sChkN f fd) (FL : FO P w K mg base CX0 19 "fault_of_line" ["modules", "module", "line"] spFLine f1 fd1) : FnOk P w K mg base CX0 20 f fd ["modules", "order"] spChkN := by
  have sc := scChkN
  refine F.ok sc (fun vs H Q E h => ?_) (fun cdv A outer s H vs Q E hr h => ?_)
  · obtain ⟨dm, e, ms, ord, rfl, _⟩ := h
    rfl
  · obtain ⟨dm, e, ms, ord, rfl, hM, he, hc, q⟩ := h
    refine ⟨_, (pss_cons (ps_for PassesOwn.never rfl (pi_tup (pv 1)) (pg_name (i := 2) sc.nd rfl (Or.inl rfl))
      (pss_one (ps_for PassesOwn.never rfl (pi_tup (pe_dget (hu_of hr) (pv 0) (pv 2) (fun _ _ => rfl))) (pg_name (i := 3) sc.nd rfl (Or.inl rfl))
      (pss_cons (ps_set (i := 4) sc.nd rfl (Or.inl rfl) (pe_call FL.ok hr (by rfl) FL.m FL.kp FL.b .nil pass0 (pa_cons (pv 0) (pa_cons (pv 2) (pa_cons (pv 3) pa_nil)))))
      (pss_one (ps_if (pt_cmpR op_notN (pv 4) pe_non (nomark _))
      (pss_one (ps_ret (pv 4)))
      pss_nil))))))
      (pss_one (ps_ret pe_non))), ?_⟩
    refine ⟨_, rfl, e, rfl, ⟨_, SqT.of he⟩, for_tup (K := K) (a := e) (xs := sts ord) (fun i σ H' => ∃ (y2 y3 y4 : Option V), σ = [some (.ref dm), some (.ref e), y2, y3, y4] ∧ Same H H' ∧ nf ms ord = (ord.drop i).findSome? fun m => (linesOf ms m).findSome? (lf ms m))
      ⟨none, none, none, rfl, Same.refl _, rfl⟩ (fun i σ H' _ hI => ?_) (fun i x σ H' hx hI => ?_) (fun σ H' hI => ?_)⟩
    · obtain ⟨y2, y3, y4, rfl, s1, _⟩ := hI
      exact SqT.of (s1 _ _ he)
    · obtain ⟨y2, y3, y4, rfl, s1, hn⟩ := hI
      rw [List.getElem?_map, Option.map_eq_some_iff] at hx
      obtain ⟨m, hm, rfl⟩ := hx
      obtain ⟨c1, c2, c3⟩ := hc m (List.mem_of_getElem? hm)
      obtain ⟨o, g1, g2, g3⟩ := kk_in (hM.same s1) m
      obtain ⟨ls, els⟩ := Option.isSome_iff_exists.mp c1
      obtain ⟨b, vs, rfl, hb, lvs⟩ := g3 ls els
      have eln : linesOf ms m = ls := by unfold linesOf; rw [els]; rfl
      rw [eln] at c3
      refine ⟨_, rfl, _, rfl, dm, _, rfl, g1, b, rfl, ⟨_, SqT.of hb⟩, for_tup (K := K) (a := b) (xs := vs) (fun j σ H' => ∃ (y3 y4 : Option V), σ = [some (.ref dm), some (.ref e), some (.str (S m)), y3, y4] ∧ Same H H' ∧ H' b = some (.tup vs) ∧ LVs H' vs ls ∧ ls.findSome? (lf ms m) = (ls.drop j).findSome? (lf ms m))
        ⟨_, _, rfl, s1, hb, lvs, rfl⟩ (fun j σ H' _ hI => ?_) (fun j v σ H' hv hI => ?_) (fun σ H' hI => ?_)⟩
      · obtain ⟨y3, y4, rfl, s2, hb2, _⟩ := hI
        exact SqT.of hb2
      · obtain ⟨y3, y4, rfl, s2, hb2, lvs2, hl⟩ := hI
        obtain ⟨l, hl2, lv⟩ := pairGetR lvs2 hv
        refine ⟨_, rfl, _, rfl, _, rfl, dm, ms, m, v, l, rfl, hM.same s2, c2, lv, c3 l (List.mem_of_getElem? hl2), fun H3 u s3 hu => ?_⟩
        have s03 : Same H H3 := fun z o e => s3 _ _ (s2 _ _ e)
        refine ⟨_, rfl, rfl, _, rfl, ?_⟩
        rw [optF_non hu]
        cases hf : lf ms m l with
        | some fl =>
          rw [hf] at hu
          refine iteT ⟨_, rfl, q _ _ s03 ?_⟩
          rw [show nf ms ord = some fl from fs_some hm (by show (linesOf ms m).findSome? _ = _; rw [eln]; exact fs_some hl2 hf hl) hn]
          exact hu
        | none => exact iteF ⟨_, _, rfl, s03, s3 _ _ hb2, LVs.imp (same_tup s3) lvs2, fs_none hl2 hf hl⟩
      · obtain ⟨y3, y4, rfl, s2, hb2, lvs2, hl⟩ := hI
        exact ⟨_, _, _, rfl, s2, fs_none hm (by show (linesOf ms m).findSome? _ = _; rw [eln]; exact fs_end (Nat.le_of_eq (Paired.length lvs2).symm) hl) hn⟩
    · obtain ⟨y2, y3, y4, rfl, s1, hn⟩ := hI
      refine q _ _ s1 ?_
      rw [List.length_map] at hn
      rw [show nf ms ord = none from fs_end (Nat.le_refl _) hn]
      rfl
end
end K3

set_option maxRecDepth 100000
set_option maxHeartbeats 4000000
/-! the law's faults: uses, trees -/
namespace L2
open PySem hiding Tok code
open PySem.Spec PyProof.Rows
section
variable {X : Cx} {e : Expr} {es es1 : List Expr} {t t1 : TA} {name : Str} {apos cpos tpos : Pos} {x1 : Nat} {T id : String} {r : V → List V → Hp → VK → Prop}
/-- a method of a tuple that is written there -/
theorem pe_bmTup (pa : PlainAttrs "tuple") (slot : Slot "tuple" name id) (hty : typeOf (.builtin id) = pure (.type "method_descriptor")) (hm : MtR X id r) (h1 : PA X es1 t1) (ha : PA X (e :: es) t)
    (hbase : attributeBase (.Tuple es1 x1 tpos) name X.env (eval (.Tuple es1 x1 tpos) X.env) = eval (.Tuple es1 x1 tpos) X.env := by rfl)
    (hfew : ((backTo cpos (starEach (e :: es) X.env)).all (fun x => !x.1) && (backToKw cpos (keywordEach [] X.env)).all (fun x => x.1.isSome)
      && decide ((e :: es).length + ([] : List Keyword).length + (if ([] : List Keyword).isEmpty then 0 else 1) < 30)) = true := by rfl)
    (hline : (apos.endLine == cpos.line) = true := by rfl) (hs : starEach (e :: es) X.env = (false, eval e X.env) :: starEach es X.env := by rfl) (hplain : (backTo cpos (starEach es X.env)).any (·.1) = false := by rfl) :
    PE X (.Call (.Attribute (.Tuple es1 x1 tpos) name apos) (e :: es) [] cpos) (fun σ H Q => t1 σ H fun xs H1 => xs.length ≤ sizeLine ∧ ∀ p, H1 p = none → t σ (upd H1 p (.tup xs)) fun ys H2 => r (.ref p) ys H2 Q) := by
  refine ⟨fun pins s σ H Q I h => ?_⟩
  refine wpAny_Call_method_late hbase hfew hline rfl (wpAny_Tuple_spliced (thn (h1.run tpos pins s σ H _ I h) fun us s1 ⟨xs, H1, I1, r1, z, q⟩ => ⟨by rw [← r1.length]; exact z, ?_⟩))
  have hf : H1 s1.heap.objs.size = none := I1.hok.fresh (Nat.le_refl _)
  have I2 : Inv X pins σ (upd H1 s1.heap.objs.size (.tup xs)) { s1 with heap := s1.heap.push { cls := .type "tuple", data := .seq us.toArray } } :=
    I1.laid (t' := s1.toks) (fun b u e => Heap.get?_push_of_some _ e) (Nat.le_refl _) (show ObjOk X.prog X.w _ _ _ (.tup xs) from ⟨z, us, r1, ⟨_, Heap.get?_push_size _ rfl, rfl, _, rfl⟩⟩)
  refine ⟨"tuple", id, pa, slot, hty, ⟨_, Heap.get?_push_size _ rfl, rfl⟩, (fun a e => by cases e; exact ⟨_, Heap.get?_push_size _ rfl, rfl⟩), ?_⟩
  have hA := ha.run cpos pins _ σ _ _ I2 (q _ hf)
  rw [hs] at hA ⊢
  refine Calls.callWith_builtin (by show (false || (backTo cpos (starEach es X.env)).any (·.1)) = false; rw [hplain] <;> rfl) (Calls.evalArgs_plain ?_)
  exact thn hA fun vs s2 ⟨ys, H2, I3, r2, q2⟩ => hm pins s2 σ H2 (.ref s1.heap.objs.size) ys _ vs Q I3 rfl r2 q2
end
end L2
namespace K3
open PySem hiding Tok code
open PySem.Spec PyProof.Rows GD K1
open L2 hiding rest
open K2 hiding Sp P
abbrev sLTree : Stmt := topS 33
abbrev sUse : Stmt := topS 34
abbrev sLLine : Stmt := topS 35
abbrev sLNames : Stmt := topS 36
theorem findOwn_mem {n : NM} {ls : List Ln} {l : Ln} (h : findOwn n ls = some l) : l ∈ ls ∧ lname l = some n := by
  unfold findOwn at h
  have h2 := List.find?_some h
  exact ⟨List.mem_of_find?_eq_some h, of_decide_eq_true h2⟩
theorem findList_mem {w : Bool} {n : NM} : ∀ {ls : List Ln} {q : Pl}, findList w n ls = some q → ∃ ps p, Ln.lst w ps q.1 ∈ ls ∧ p ∈ ps ∧ p.2 = n ∧ q.2 = p.1
  | [], q, h => by cases h
  | l :: r, q, h => by
    rw [findList] at h
    cases e : listHere w n l with
    | none =>
      rw [e] at h
      obtain ⟨ps, p, h1, h2⟩ := findList_mem (ls := r) h
      exact ⟨ps, p, List.mem_cons_of_mem _ h1, h2⟩
    | some x =>
      rw [e] at h
      cases h
      cases l with
      | lst v ps m =>
        rw [listHere] at e
        split at e
        · rename_i hv
          subst hv
          rw [Option.map_eq_some_iff] at e
          obtain ⟨p, h1, h2⟩ := e
          subst h2
          have h3 := List.find?_some h1
          exact ⟨ps, p, List.mem_cons_self .., List.mem_of_find?_eq_some h1, of_decide_eq_true h3, rfl⟩
        · cases e
      | lt _ _ _ => cases e
      | fn _ _ _ => cases e
      | dw _ _ => cases e
theorem turns_sm {ms : Mods} (h : ∀ p ∈ tgt ms, smP p) : ∀ k p q, smP p → turns ms k p = some q → smP q
  | 0, _, _, _, e => by cases e
  | k + 1, p, q, hp, e => by
    rw [turns] at e
    split at e
    · cases e; exact hp
    · cases e2 : lstd true ms p with
      | none => rw [e2] at e; cases e
      | some r => rw [e2] at e; exact turns_sm h k r q (h r (lstd_tgt e2)) e
theorem turns_own {ms : Mods} : ∀ k p q, turns ms k p = some q → isOwn ms q = true
  | 0, _, _, e => by cases e
  | k + 1, p, q, e => by
    rw [turns] at e
    split at e
    · rename_i h; cases e; exact h
    · cases e2 : lstd true ms p with
      | none => rw [e2] at e; cases e
      | some r => rw [e2] at e; exact turns_own k r q e

theorem decl_some {ms : Mods} {m n : NM} {l : Ln} (h : decl ms m n = some l) : (mget ms m).isSome = true ∧ l ∈ linesOf ms m ∧ lname l = some n := by
  obtain ⟨h1, h2⟩ := findOwn_mem h
  refine ⟨?_, h1, h2⟩
  unfold linesOf at h1
  cases e : mget ms m with
  | none => rw [e] at h1; cases h1
  | some ls => rfl
theorem avail_own {ms : Mods} {p q : Pl} (h : avail ms p = some q) : isOwn ms q = true := by
  unfold avail at h
  split at h
  · rename_i h2; cases h; exact h2
  · cases e : lstd false ms p with
    | none => rw [e] at h; cases h
    | some r => rw [e] at h; exact turns_own _ _ _ h
/-- where the law's answers are those of the program -/
structure LwOK (ms : Mods) (m : NM) : Prop where
  ex : ExOK ms
  ap : ∀ x, isOwn ms (m, x) = true → lstd false ms (m, x) = none
section
variable {P : Program} {w : World} {K : PySem.W.Frag} {mg : Str → Option Value} {base : Heap} {C : Addr}
def useT : Tr → Bool
  | .name _ => true
  | .set _ _ => true
  | .call _ _ => true
  | _ => false
def useW : List Str := ["name", "set", "call"]
theorem TV.use {H : Hp} {t : Tr} {u : V} (ms : Mods) (m : NM) (ps : List NM) (h : TV H t u) (ut : useT t = true) : ∃ (a : Addr) (j : Nat) (wd : Str) (x : NM) (xs : List V) (k : Nat), u = .ref a ∧ H a = some (.tup (.str wd :: .str (S x) :: xs)) ∧ useW[j]? = some wd ∧ j < 3 ∧
    topF ms m ps t = (if j = 2 then callF ms m ps x k else varF ms m ps x (decide (j = 0))) ∧ (j = 2 → ∃ a2 ws, xs = [.ref a2] ∧ H a2 = some (.tup ws) ∧ ws.length = k) := by
  cases t with
  | num n => cases ut
  | str l => cases ut
  | ite a b c => cases ut
  | seq a b => cases ut
  | op c a b => cases ut
  | name x =>
    rw [TV] at h
    obtain ⟨a, e, h⟩ := h
    exact ⟨a, 0, _, x, [], 0, e, h, rfl, by decide, rfl, fun z => by cases z⟩
  | set x r =>
    rw [TV] at h
    obtain ⟨a, b, e, h, _⟩ := h
    exact ⟨a, 1, _, x, [b], 0, e, h, rfl, by decide, rfl, fun z => by cases z⟩
  | call x as =>
    rw [TV] at h
    obtain ⟨a, a2, ws, e, h, h2, tvs, _⟩ := h
    exact ⟨a, 2, _, x, [.ref a2], as.length, e, h, rfl, by decide, rfl, fun _ => ⟨a2, ws, rfl, h2, TVs.len tvs⟩⟩
theorem use_first {j : Nat} {wd : Str} (h : useW[j]? = some wd) : ∀ m, m < j → useW[m]? ≠ some wd := by
  have hj := (List.getElem?_eq_some_iff.mp h).1
  have : ∀ j < 3, ∀ m < j, useW[m]? ≠ useW[j]? := by decide +kernel
  intro m hm
  rw [← h]
  exact this j hj m hm
theorem use_call {j : Nat} {wd : Str} (h : useW[j]? = some wd) (hj : j < 3) : decide (V.str wd = V.str "call") = decide (j = 2) := by
  have : ∀ j < 3, ∀ wd, useW[j]? = some wd → decide (V.str wd = V.str "call") = decide (j = 2) := by
    intro j hj wd h
    rcases (show j = 0 ∨ j = 1 ∨ j = 2 by omega) with rfl | rfl | rfl <;> (cases h; decide +kernel)
  exact this j hj wd h
def spUse : L2.Sp := fun vs H Q _ => ∃ (dm : Addr) (ms : Mods) (m : NM) (u : V) (t : Tr) (pr : Addr) (ps : List NM), vs = [.ref dm, .str (S m), u, .ref pr] ∧ MD H dm ms ∧ LwOK ms m ∧ TV H t u ∧ useT t = true ∧ H pr = some (.tup (sts ps)) ∧
  ∀ H' v, Same H H' → optV H' (FltV H') v (topF ms m ps t) → Q v H'
theorem scUse : FnScope ["modules", "module", "tree", "inner", "word", "name", "binding", "line"] ["modules", "module", "tree", "inner"] (defScope sUse) := ⟨rfl, rfl, rfl, by decide +kernel, rfl, by decide +kernel, by decide +kernel⟩
theorem ok_use {f f1 f2 : Addr} {fd fd1 fd2 : FuncData} (F : Fun K "_law_use_fault" "_law_use_fault" sUse f fd) (T : Txt K mg)
    (FL : FO P w K mg base CX0 3 "_law_leads" ["modules", "module", "name"] spLeads f1 fd1) (FD : FO P w K mg base CX0 1 "_law_declared" ["modules", "binding"] spLDecl f2 fd2) : FnOk P w K mg base CX0 4 f fd ["modules", "module", "tree", "inner"] spUse := by
  have sc := scUse
  refine F.ok sc (fun vs H Q E h => ?_) (fun cdv A outer s H vs Q E hr h => ?_)
  · obtain ⟨dm, ms, m, u, t, pr, ps, rfl, _⟩ := h
    rfl
  · obtain ⟨dm, ms, m, u, t, pr, ps, rfl, hM, lw, tv, ut, hp, q⟩ := h
    refine ⟨_, (pss_cons (ps_set (i := 4) sc.nd rfl (Or.inl rfl) (pe_ix ix_tup (pv 2) pe_int (fun _ _ => rfl)))
      (pss_cons (ps_set (i := 5) sc.nd rfl (Or.inl rfl) (pe_ix ix_tup (pv 2) pe_int (fun _ _ => rfl)))
      (pss_cons (ps_if (pt_cmpR op_in_seq (pv 5) (pv 3) rfl)
      (pss_one (ps_ret (pe_ix ix_list (pe_lst (pa_cons pe_non (pa_cons (pe_tup (pa_cons pe_str (pa_cons (pv 1) (pa_cons (pv 5) pa_nil)))) (pa_cons (pe_tup (pa_cons pe_str (pa_cons (pv 1) (pa_cons (pv 5) pa_nil)))) pa_nil)))) (pe_bmTup PySem.F.plainAttrs_tuple PySem.F.slot_tuple_index PySem.F.type_tuple_index mt_tup_index (pa_cons pe_str (pa_cons pe_str (pa_cons pe_str pa_nil))) (pa_cons (pv 4) pa_nil)) (fun _ _ => rfl))))
      pss_nil)
      (pss_cons (ps_set (i := 6) sc.nd rfl (Or.inl rfl) (pe_call FL.ok hr (by rfl) FL.m FL.kp FL.b .nil pass0 (pa_cons (pv 0) (pa_cons (pv 1) (pa_cons (pv 5) pa_nil)))))
      (pss_cons (ps_if (pt_cmpR op_isN (pv 6) pe_non (nomark _))
      (pss_one (ps_ret (pe_tup (pa_cons pe_str (pa_cons (pv 1) (pa_cons (pv 5) pa_nil))))))
      pss_nil)
      (pss_cons (ps_set (i := 7) sc.nd rfl (Or.inl rfl) (pe_call FD.ok (hr.mono (by decide)) (by rfl) FD.m FD.kp FD.b .nil pass0 (pa_cons (pv 0) (pa_cons (pv 6) pa_nil))))
      (pss_cons (ps_if (pt_cmpR op_eq (pv 4) pe_str (nomark _))
      (pss_cons (ps_if (pt_cmpR op_ne (pe_ix ix_tup (pv 7) pe_int (fun _ _ => rfl)) pe_str (nomark _))
      (pss_one (ps_ret (pe_tup (pa_cons pe_str (pa_cons (pv 1) (pa_cons (pv 5) pa_nil))))))
      pss_nil)
      (pss_cons (ps_if (pt_cmpR op_ne (pe_callB call_len_seq (by rfl) T.len (by decide +kernel) (pa_cons (pe_ix ix_tup (pv 7) pe_int (fun _ _ => rfl)) pa_nil)) (pe_callB call_len_seq (by rfl) T.len (by decide +kernel) (pa_cons (pe_ix ix_tup (pv 2) pe_int (fun _ _ => rfl)) pa_nil)) (nomark _))
      (pss_one (ps_ret (pe_tup (pa_cons pe_str (pa_cons (pv 1) (pa_cons (pv 5) pa_nil))))))
      pss_nil)
      (pss_one (ps_ret pe_non))))
      pss_nil)
      (pss_cons (ps_if (pt_cmpR op_eq (pe_ix ix_tup (pv 7) pe_int (fun _ _ => rfl)) pe_str (nomark _))
      (pss_one (ps_ret (pe_tup (pa_cons pe_str (pa_cons (pv 1) (pa_cons (pv 5) pa_nil))))))
      pss_nil)
      (pss_one (ps_ret pe_non)))))))))), ?_⟩
    obtain ⟨a, j, wd, x, xs, k, rfl, ha, hw, hj, ht, hcl⟩ := TV.use ms m ps tv ut
    rw [ht] at q
    refine ⟨_, rfl, a, _, _, _, rfl, rfl, SqT.of ha, atI_nat (j := 0) rfl, ?_⟩
    refine ⟨_, rfl, a, _, _, _, rfl, rfl, SqT.of ha, atI_nat (j := 1) rfl, ?_⟩
    refine ⟨_, rfl, _, rfl, pr, _, rfl, .inr (SqT.of hp), rfl, flat_strs ps, _, rfl, ?_⟩
    rw [show (if false = true then !inV (V.str (S x)) (sts ps) else inV (V.str (S x)) (sts ps)) = decide (x ∈ ps) from inV_strs x ps]
    refine ite2 (fun hx => ?_) (fun hx => ?_)
    · have hx := of_decide_eq_true hx
      have em : mean ms m ps x = some .par := if_pos hx
      refine ⟨_, rfl, _, rfl, three_le, fun v1 nv1 => ?_⟩
      have s1 := Same.lst (o := .tup [.str "variable", .str (S m), .str (S x)]) (Same.refl H) nv1
      have e1 : upd H v1 (.tup [.str "variable", .str (S m), .str (S x)]) v1 = some (.tup [.str "variable", .str (S m), .str (S x)]) := upd_same
      generalize upd H v1 (.tup [.str "variable", .str (S m), .str (S x)]) = H1 at *
      refine ⟨_, rfl, _, rfl, three_le, fun v2 nv2 => ?_⟩
      have s2 := Same.up (o := .tup [.str "function", .str (S m), .str (S x)]) s1 nv2
      have e2 : upd H1 v2 (.tup [.str "function", .str (S m), .str (S x)]) v2 = some (.tup [.str "function", .str (S m), .str (S x)]) := upd_same
      have e1 : upd H1 v2 (.tup [.str "function", .str (S m), .str (S x)]) v1 = some (.tup [.str "variable", .str (S m), .str (S x)]) := by rw [upd_ne (ne_of_none e1 nv2)]; exact e1
      generalize upd H1 v2 (.tup [.str "function", .str (S m), .str (S x)]) = H2 at *
      refine ⟨three_le, fun l nl => ⟨three_le, fun tp ntp => ?_⟩⟩
      have s3 := Same.up (o := .lst [.non, .ref v1, .ref v2]) s2 nl
      have el : upd H2 l (.lst [.non, .ref v1, .ref v2]) l = some (.lst [.non, .ref v1, .ref v2]) := upd_same
      have e1 : upd H2 l (.lst [.non, .ref v1, .ref v2]) v1 = some (.tup [.str "variable", .str (S m), .str (S x)]) := by rw [upd_ne (ne_of_none e1 nl)]; exact e1
      have e2 : upd H2 l (.lst [.non, .ref v1, .ref v2]) v2 = some (.tup [.str "function", .str (S m), .str (S x)]) := by rw [upd_ne (ne_of_none e2 nl)]; exact e2
      generalize upd H2 l (.lst [.non, .ref v1, .ref v2]) = H3 at *
      have s4 := Same.up (o := .tup (useW.map V.str)) s3 ntp
      have el : upd H3 tp (.tup (useW.map V.str)) l = some (.lst [.non, .ref v1, .ref v2]) := by rw [upd_ne (ne_of_none el ntp)]; exact el
      have e1 : upd H3 tp (.tup (useW.map V.str)) v1 = some (.tup [.str "variable", .str (S m), .str (S x)]) := by rw [upd_ne (ne_of_none e1 ntp)]; exact e1
      have e2 : upd H3 tp (.tup (useW.map V.str)) v2 = some (.tup [.str "function", .str (S m), .str (S x)]) := by rw [upd_ne (ne_of_none e2 ntp)]; exact e2
      have et : upd H3 tp (.tup (useW.map V.str)) tp = some (.tup (useW.map V.str)) := upd_same
      refine ⟨_, rfl, tp, useW, wd, j, rfl, rfl, SqT.of et, hw, use_first hw, ?_⟩
      have q : ∀ v, optV (upd H3 tp (.tup (useW.map V.str))) (FltV (upd H3 tp (.tup (useW.map V.str)))) v (if j = 2 then callF ms m ps x k else varF ms m ps x (decide (j = 0))) → Q v (upd H3 tp (.tup (useW.map V.str))) := fun v hv => q _ _ s4 hv
      unfold callF varF at q
      rw [em] at q
      rcases (show j = 0 ∨ j = 1 ∨ j = 2 by omega) with rfl | rfl | rfl
      · exact ⟨l, _, _, _, rfl, rfl, SqL.of el, atI_nat (j := 0) rfl, q _ rfl⟩
      · exact ⟨l, _, _, _, rfl, rfl, SqL.of el, atI_nat (j := 1) rfl, q _ ⟨v1, rfl, e1⟩⟩
      · exact ⟨l, _, _, _, rfl, rfl, SqL.of el, atI_nat (j := 2) rfl, q _ ⟨v2, rfl, e2⟩⟩
    · have hx : x ∉ ps := fun z => hx (decide_eq_true z)
      have em : mean ms m ps x = (avail ms (m, x)).bind fun q => (decl ms q.1 q.2).map .ln := if_neg hx
      refine ⟨_, rfl, _, rfl, _, rfl, dm, ms, m, x, rfl, hM, lw.ex, lw.ap x, fun H1 v s1 hv => ?_⟩
      refine ⟨_, rfl, rfl, _, rfl, ?_⟩
      rw [optP_non hv]
      unfold callF varF at q
      rw [em] at q
      cases hav : avail ms (m, x) with
      | none =>
        rw [hav] at q
        refine iteT ⟨_, rfl, _, rfl, three_le, fun z nz => q _ _ (Same.up s1 nz) ?_⟩
        split <;> exact ⟨z, rfl, upd_same⟩
      | some b =>
        rw [hav] at q hv
        have ow := avail_own hav
        unfold isOwn at ow
        obtain ⟨l, hl⟩ := Option.isSome_iff_exists.mp ow
        obtain ⟨d1, d2, d3⟩ := decl_some hl
        have q : ∀ H' v, Same H H' → optV H' (FltV H') v (if j = 2 then (match ((decl ms b.1 b.2).map Mean.ln : Option Mean) with
            | none => some ⟨"name", m, x⟩
            | some (.ln (.fn _ qs _)) => if qs.length = k then none else some ⟨"count", m, x⟩
            | some _ => some ⟨"function", m, x⟩) else match ((decl ms b.1 b.2).map Mean.ln : Option Mean) with
            | none => some ⟨"name", m, x⟩
            | some .par => if decide (j = 0) = true then none else some ⟨"variable", m, x⟩
            | some (.ln (.lt _ _ _)) => none
            | some (.ln _) => some ⟨"variable", m, x⟩) → Q v H' := q
        rw [hl] at q
        refine iteF ?_
        refine ⟨_, rfl, _, rfl, dm, v, ms, b.1, b.2, rfl, hM.same s1, hv, d1, fun H2 ul s2 hul => ?_⟩
        rw [hl] at hul
        have s02 : Same H H2 := fun z o e => s2 _ _ (s1 _ _ e)
        refine ⟨_, rfl, rfl, _, rfl, ?_⟩
        rw [use_call hw hj]
        cases l with
        | lst _ _ _ => cases d3
        | dw _ _ => cases d3
        | lt kk y tt =>
          obtain ⟨la, lu, rfl, l1, _⟩ := (show LV H2 ul (.lt kk y tt) from hul)
          have nf : decide (V.str (lnW (.lt kk y tt)) = V.str "fn") = false := by cases kk <;> rfl
          by_cases h2 : j = 2
          · subst h2
            refine iteT' rfl ?_
            refine ⟨_, rfl, la, _, _, _, rfl, rfl, SqT.of l1, atI_nat (j := 0) rfl, rfl, _, rfl, iteT' (by rw [nf]; rfl) ?_⟩
            exact ⟨_, rfl, _, rfl, three_le, fun z nz => q _ _ (Same.up s02 nz) ⟨z, rfl, upd_same⟩⟩
          · refine iteF' (decide_eq_false h2) ?_
            refine ⟨_, rfl, la, _, _, _, rfl, rfl, SqT.of l1, atI_nat (j := 0) rfl, rfl, _, rfl, iteF' nf ?_⟩
            refine q _ _ s02 ?_
            rw [if_neg h2]
            rfl
        | fn g qs tt =>
          obtain ⟨la, lr, lu, rfl, l1, l2, _⟩ := (show LV H2 ul (.fn g qs tt) from hul)
          by_cases h2 : j = 2
          · subst h2
            obtain ⟨a2, ws, rfl, ha2, hlw⟩ := hcl rfl
            refine iteT' rfl ?_
            refine ⟨_, rfl, la, _, _, _, rfl, rfl, SqT.of l1, atI_nat (j := 0) rfl, rfl, _, rfl, iteF' rfl ?_⟩
            refine ⟨_, rfl, la, _, _, _, rfl, rfl, SqT.of l1, atI_nat (j := 2) rfl, lr, _, rfl, .inr (SqT.of l2), _, rfl, a, _, _, _, rfl, rfl, SqT.of (s02 _ _ ha), atI_nat (j := 2) rfl, a2, ws, rfl, .inr (SqT.of (s02 _ _ ha2)), rfl, _, rfl, ?_⟩
            rw [List.length_map, hlw]
            have q : ∀ H' v, Same H H' → optV H' (FltV H') v (if qs.length = k then none else some ⟨"count", m, x⟩) → Q v H' := q
            by_cases hk : qs.length = k
            · refine iteF' (by rw [hk]; simp) (q _ _ s02 ?_)
              rw [if_pos hk]
              rfl
            · refine iteT' (by have : ¬ ((qs.length : Int) = (k : Int)) := fun z => hk (by omega); simp [this]) ⟨_, rfl, _, rfl, three_le, fun z nz => q _ _ (Same.up s02 nz) ?_⟩
              rw [if_neg hk]
              exact ⟨z, rfl, upd_same⟩
          · refine iteF' (decide_eq_false h2) ?_
            refine ⟨_, rfl, la, _, _, _, rfl, rfl, SqT.of l1, atI_nat (j := 0) rfl, rfl, _, rfl, iteT' rfl ?_⟩
            refine ⟨_, rfl, _, rfl, three_le, fun z nz => q _ _ (Same.up s02 nz) ?_⟩
            rw [if_neg h2]
            exact ⟨z, rfl, upd_same⟩
end
end K3

set_option maxRecDepth 100000
set_option maxHeartbeats 4000000
/-! the law's faults of trees, lines, modules -/
namespace K3
open PySem hiding Tok code
open PySem.Spec PyProof.Rows GD K1
open L2 hiding rest
open K2 hiding Sp P
def nsT : Tr → Bool
  | .num _ => true
  | .str _ => true
  | _ => false
def nameT : Tr → Bool
  | .name _ => true
  | _ => false
def setT : Tr → Bool
  | .set _ _ => true
  | _ => false
def callT : Tr → Bool
  | .call _ _ => true
  | _ => false
structure HdW (H : Hp) (t : Tr) (u : V) (a : Addr) (wd : Str) (xs : List V) : Prop where
  e : u = .ref a
  h : H a = some (.tup (.str wd :: xs))
  ns : inV (.str wd) [.str "number", .str "string"] = nsT t
  us : inV (.str wd) (useW.map V.str) = useT t
  nm : decide (V.str wd = V.str "name") = nameT t
  st : decide (V.str wd = V.str "set") = setT t
  ca : decide (V.str wd = V.str "call") = callT t
  plain : nsT t = false → useT t = false → TVs H (kids t) xs
  sets : setT t = true → ∃ y v, xs = [y, v] ∧ TVs H (kids t) [v]
  calls : callT t = true → ∃ y a2 ws, xs = [y, .ref a2] ∧ H a2 = some (.tup ws) ∧ TVs H (kids t) ws
theorem TV.hdw {H : Hp} {t : Tr} {u : V} (h : TV H t u) : ∃ a wd xs, HdW H t u a wd xs := by
  cases t with
  | num n =>
    rw [TV] at h
    obtain ⟨a, e, h⟩ := h
    exact ⟨a, _, _, e, h, rfl, rfl, rfl, rfl, rfl, (fun z => by cases z), (fun z => by cases z), (fun z => by cases z)⟩
  | str l =>
    rw [TV] at h
    obtain ⟨a, e, h⟩ := h
    exact ⟨a, _, _, e, h, rfl, rfl, rfl, rfl, rfl, (fun z => by cases z), (fun z => by cases z), (fun z => by cases z)⟩
  | name x =>
    rw [TV] at h
    obtain ⟨a, e, h⟩ := h
    exact ⟨a, _, _, e, h, rfl, rfl, rfl, rfl, rfl, (fun _ z => by cases z), (fun z => by cases z), (fun z => by cases z)⟩
  | call x as =>
    rw [TV] at h
    obtain ⟨a, a2, ws, e, h, h2, tvs, _⟩ := h
    exact ⟨a, _, _, e, h, rfl, rfl, rfl, rfl, rfl, (fun _ z => by cases z), (fun z => by cases z), fun _ => ⟨_, a2, ws, rfl, h2, tvs⟩⟩
  | ite x y z =>
    rw [TV] at h
    obtain ⟨q, a, b, c, e, h, ta, tb, tc⟩ := h
    exact ⟨q, _, _, e, h, rfl, rfl, rfl, rfl, rfl, fun _ _ => TVs.three ta tb tc, (fun z => by cases z), (fun z => by cases z)⟩
  | set x r =>
    rw [TV] at h
    obtain ⟨q, a, e, h, ta⟩ := h
    exact ⟨q, _, _, e, h, rfl, rfl, rfl, rfl, rfl, (fun _ z => by cases z), fun _ => ⟨_, _, rfl, TVs.one ta⟩, (fun z => by cases z)⟩
  | seq x y =>
    rw [TV] at h
    obtain ⟨q, a, b, e, h, ta, tb⟩ := h
    exact ⟨q, _, _, e, h, rfl, rfl, rfl, rfl, rfl, fun _ _ => TVs.two ta tb, (fun z => by cases z), (fun z => by cases z)⟩
  | op c x y =>
    rw [TV] at h
    obtain ⟨q, a, b, e, h, ta, tb, hc⟩ := h
    have k : ∀ c ∈ [42, 43, 45, 60, 61], inV (.str (S [c])) [.str "number", .str "string"] = false ∧ inV (.str (S [c])) (useW.map V.str) = false ∧ decide (V.str (S [c]) = V.str "name") = false ∧ decide (V.str (S [c]) = V.str "set") = false ∧ decide (V.str (S [c]) = V.str "call") = false := by decide +kernel
    obtain ⟨k1, k2, k3, k4, k5⟩ := k c hc
    exact ⟨q, _, _, e, h, k1, k2, k3, k4, k5, fun _ _ => TVs.two ta tb, (fun z => by cases z), (fun z => by cases z)⟩
section
variable {P : Program} {w : World} {K : PySem.W.Frag} {mg : Str → Option Value} {base : Heap} {C : Addr}
def spLTree (n : Nat) : L2.Sp := fun vs H Q _ => ∃ (dm : Addr) (ms : Mods) (m : NM) (u : V) (t : Tr) (pr : Addr) (ps : List NM), vs = [.ref dm, .str (S m), u, .ref pr] ∧ MD H dm ms ∧ LwOK ms m ∧ TV H t u ∧ hgt t ≤ n ∧ H pr = some (.tup (sts ps)) ∧
  ∀ H' v, Same H H' → optV H' (FltV H') v (tf ms m ps t) → Q v H'
theorem no_ltree {vs : List V} {H : Hp} {Q : VK} {E : XK} (h : spLTree 0 vs H Q E) : False := by
  obtain ⟨dm, ms, m, u, t, pr, ps, _, _, _, _, h, _⟩ := h
  have := hgt_pos t
  omega
theorem scLTree : FnScope ["modules", "module", "tree", "inner", "word", "fault", "parts", "part"] ["modules", "module", "tree", "inner"] (defScope sLTree) := ⟨rfl, rfl, rfl, by decide +kernel, rfl, by decide +kernel, by decide +kernel⟩
theorem ok_ltree1 {n : Nat} {f f1 : Addr} {fd fd1 : FuncData} (F : Fun K "_law_tree_fault" "_law_tree_fault" sLTree f fd) (T : Txt K mg) (m : mg "_law_tree_fault" = some (.ref f)) (kp : PySem.W.keepIn K (.ref f) = true) (bi : Binds K fd ["modules", "module", "tree", "inner"] [])
    (FU : FO P w K mg base CX0 4 "_law_use_fault" ["modules", "module", "tree", "inner"] spUse f1 fd1)
    (FT : FnOk P w K mg base CX0 (4 + n) f fd ["modules", "module", "tree", "inner"] (spLTree n)) : FnOk P w K mg base CX0 (4 + n + 1) f fd ["modules", "module", "tree", "inner"] (spLTree (n + 1)) := by
  have sc := scLTree
  refine F.ok sc (fun vs H Q E h => ?_) (fun cdv A outer s H vs Q E hr h => ?_)
  · obtain ⟨dm, ms, mo, u, t, pr, ps, rfl, _⟩ := h
    rfl
  · obtain ⟨dm, ms, mo, u, t, pr, ps, rfl, hM, lw, tv, hn, hp, q⟩ := h
    refine ⟨_, (pss_cons (ps_set (i := 4) sc.nd rfl (Or.inl rfl) (pe_ix ix_tup (pv 2) pe_int (fun _ _ => rfl)))
      (pss_cons (ps_if (pt_cmpR op_in_seq (pv 4) (pe_tup (pa_cons pe_str (pa_cons pe_str pa_nil))) rfl)
      (pss_one (ps_ret pe_non))
      pss_nil)
      (pss_cons (ps_if (pt_cmpR op_in_seq (pv 4) (pe_tup (pa_cons pe_str (pa_cons pe_str (pa_cons pe_str pa_nil)))) rfl)
      (pss_cons (ps_set (i := 5) sc.nd rfl (Or.inl rfl) (pe_call FU.ok (hr.mono (by omega)) (by rfl) FU.m FU.kp FU.b .nil pass0 (pa_cons (pv 0) (pa_cons (pv 1) (pa_cons (pv 2) (pa_cons (pv 3) pa_nil))))))
      (pss_one (ps_if (PW.pt (pw_or (pt_cmpR op_notN (pv 5) pe_non (nomark _)) (pw_or1 (pt_cmpR op_eq (pv 4) pe_str (nomark _)))))
      (pss_one (ps_ret (pv 5)))
      pss_nil)))
      pss_nil)
      (pss_cons (ps_set (i := 6) sc.nd rfl (Or.inl rfl) (pe_callTy call_list_of (by rfl) T.blist (by decide +kernel) (pa_cons (pe_slice sl_tup (pv 2) (po_some pe_int) po_none) pa_nil)))
      (pss_cons (ps_if (pt_cmpR op_eq (pv 4) pe_str (nomark _))
      (pss_one (ps_set (i := 6) sc.nd rfl (Or.inl rfl) (pe_lst (pa_cons (pe_ix ix_tup (pv 2) pe_int (fun _ _ => rfl)) pa_nil))))
      pss_nil)
      (pss_cons (ps_if (pt_cmpR op_eq (pv 4) pe_str (nomark _))
      (pss_one (ps_set (i := 6) sc.nd rfl (Or.inl rfl) (pe_callTy call_list_of (by rfl) T.blist (by decide +kernel) (pa_cons (pe_ix ix_tup (pv 2) pe_int (fun _ _ => rfl)) pa_nil))))
      pss_nil)
      (pss_cons (ps_for PassesOwn.never rfl (pi_list (pv 6)) (pg_name (i := 7) sc.nd rfl (Or.inl rfl))
      (pss_cons (ps_set (i := 5) sc.nd rfl (Or.inl rfl) (pe_call FT hr (by rfl) m kp bi .nil pass0 (pa_cons (pv 0) (pa_cons (pv 1) (pa_cons (pv 7) (pa_cons (pv 3) pa_nil))))))
      (pss_one (ps_if (pt_cmpR op_notN (pv 5) pe_non (nomark _))
      (pss_one (ps_ret (pv 5)))
      pss_nil))))
      (pss_one (ps_ret pe_non))))))))), ?_⟩
    obtain ⟨a, wd, xs, W⟩ := TV.hdw tv
    obtain rfl := W.e
    refine ⟨_, rfl, a, _, _, _, rfl, rfl, SqT.of W.h, atI_nat (j := 0) rfl, ?_⟩
    refine ⟨_, rfl, two_le, fun z1 nz1 => ?_⟩
    have s1 := Same.lst (o := .tup [.str "number", .str "string"]) (Same.refl H) nz1
    refine ⟨z1, _, rfl, .inr (SqT.of upd_same), rfl, rfl, _, rfl, ?_⟩
    rw [show (if false = true then !inV (V.str wd) [.str "number", .str "string"] else inV (V.str wd) [.str "number", .str "string"]) = nsT t from W.ns]
    generalize upd H z1 (.tup [.str "number", .str "string"]) = H1 at *
    cases hns : nsT t with
    | true =>
      refine iteT (q _ _ s1 ?_)
      have : tf ms mo ps t = none := by cases t <;> first | rfl | cases hns
      rw [this]
      rfl
    | false =>
    refine iteF ?_
    refine nxp ?_
    refine seq_mid (A := tIfS _ _ _) (fun σ' H' => ∃ y5 : Option V, σ' = [some (.ref dm), some (.str (S mo)), some (.ref a), some (.ref pr), some (.str wd), y5, none, none] ∧ Same H H' ∧ topF ms mo ps t = none ∧ nameT t = false) ?_ (fun mid => ?_)
    rotate_left
    · refine ⟨_, rfl, three_le, fun z2 nz2 => ?_⟩
      have s2 := Same.up (o := .tup (useW.map V.str)) s1 nz2
      refine ⟨z2, useW.map V.str, rfl, .inr (SqT.of upd_same), rfl, rfl, _, rfl, ?_⟩
      rw [show (if false = true then !inV (V.str wd) (useW.map V.str) else inV (V.str wd) (useW.map V.str)) = useT t from W.us]
      have s2 : Same H (upd H1 z2 (.tup [.str "name", .str "set", .str "call"])) := s2
      generalize upd H1 z2 (.tup [.str "name", .str "set", .str "call"]) = H2 at *
      cases hus : useT t with
      | false =>
        refine iteF (mid _ _ ⟨_, rfl, s2, ?_, ?_⟩)
        · cases t <;> first | rfl | cases hus
        · cases t <;> first | rfl | cases hus
      | true =>
        refine iteT ?_
        refine ⟨_, rfl, _, rfl, _, rfl, _, rfl, dm, ms, mo, .ref a, t, pr, ps, rfl, hM.same s2, lw, TV.imp (same_tup s2) t _ tv, hus, s2 _ _ hp, fun H3 v s3 hv => ?_⟩
        have s03 : Same H H3 := fun z o e => s3 _ _ (s2 _ _ e)
        refine ⟨_, rfl, rfl, _, rfl, ?_⟩
        rw [optF_non hv]
        cases ht : topF ms mo ps t with
        | some fl =>
          rw [ht] at hv
          refine iteT ⟨_, rfl, q _ _ s03 ?_⟩
          rw [tf_kids, ht]
          exact hv
        | none =>
          rw [ht] at hv
          refine iteF ⟨_, rfl, rfl, _, rfl, ?_⟩
          rw [W.nm]
          cases hnm : nameT t with
          | true =>
            refine iteT ⟨_, rfl, q _ _ s03 ?_⟩
            have hk : kids t = [] := by cases t <;> first | rfl | cases hnm
            rw [tf_kids, ht, hk, tfL]
            exact hv
          | false => exact iteF (mid _ _ ⟨_, rfl, s03, ht, hnm⟩)
    rintro σ' H2 ⟨y5, rfl, s2, ht, hnm⟩
    refine ⟨_, rfl, 1, rfl, a, _, rfl, SqT.of (s2 _ _ W.h), (fun z => absurd (show min 1 (xs.length + 1) = 0 from z.1) (by omega)), fun z3 nz3 => ?_⟩
    have ecut : cutV (V.str wd :: xs) (some 1) none = xs := by
      unfold cutV
      have e1 : HT.sIx (V.str wd :: xs).length 0 (some 1) = 1 := by show min 1 (xs.length + 1) = 1; omega
      have e2 : HT.sIx (V.str wd :: xs).length (V.str wd :: xs).length none = xs.length + 1 := rfl
      rw [e1, e2]
      show List.take (xs.length + 1 - 1) xs = xs
      rw [Nat.add_sub_cancel, List.take_length]
    rw [ecut]
    have s3 := Same.up (o := .tup xs) s2 nz3
    refine ⟨z3, xs, rfl, .inr (SqT.of upd_same), fun D nD => ?_⟩
    have s4 := Same.up (o := .lst xs) s3 nD
    have eD : upd (upd H2 z3 (.tup xs)) D (.lst xs) D = some (.lst xs) := upd_same
    generalize upd (upd H2 z3 (.tup xs)) D (.lst xs) = H4 at *
    refine gn ?_
    refine nxp ?_
    refine seq_mid (A := tIfS _ _ _) (fun σ' H' => ∃ (D : Addr) (l : List V), σ' = [some (.ref dm), some (.str (S mo)), some (.ref a), some (.ref pr), some (.str wd), y5, some (.ref D), none] ∧ Same H H' ∧ H' D = some (.lst l) ∧ (callT t = false → TVs H' (kids t) l)) ?_ (fun mid2 => ?_)
    rotate_left
    · refine ⟨_, rfl, rfl, _, rfl, ?_⟩
      rw [W.st]
      cases hst : setT t with
      | true =>
        obtain ⟨y, v, rfl, tvs⟩ := W.sets hst
        refine iteT ⟨_, rfl, a, _, _, _, rfl, rfl, SqT.of (s4 _ _ W.h), atI_nat (j := 2) rfl, one_le, fun D2 nD2 => mid2 _ _ ⟨D2, _, rfl, Same.up s4 nD2, upd_same, fun _ => ?_⟩⟩
        exact TVs.imp (same_tup (Same.up s4 nD2)) _ _ tvs
      | false =>
        refine iteF (mid2 _ _ ⟨D, _, rfl, s4, eD, fun hc => ?_⟩)
        have hus : useT t = false := by
          cases t with
          | name x => cases (show true = false from hnm)
          | call _ _ => cases (show true = false from hc)
          | set _ _ => cases (show true = false from hst)
          | _ => rfl
        exact TVs.imp (same_tup s4) _ _ (W.plain hns hus)
    rintro σ' H5 ⟨D2, l, rfl, s5, eD2, hl⟩
    refine seq_mid (A := tIfS _ _ _) (fun σ' H' => ∃ (D : Addr) (l : List V), σ' = [some (.ref dm), some (.str (S mo)), some (.ref a), some (.ref pr), some (.str wd), y5, some (.ref D), none] ∧ Same H H' ∧ H' D = some (.lst l) ∧ TVs H' (kids t) l) ?_ (fun mid3 => ?_)
    rotate_left
    · refine ⟨_, rfl, rfl, _, rfl, ?_⟩
      rw [W.ca]
      cases hca : callT t with
      | true =>
        obtain ⟨y, a2, ws, rfl, ha2, tvs⟩ := W.calls hca
        refine iteT ⟨_, rfl, a, _, _, _, rfl, rfl, SqT.of (s5 _ _ W.h), atI_nat (j := 2) rfl, a2, ws, rfl, .inr (SqT.of (s5 _ _ ha2)), fun D3 nD3 => mid3 _ _ ⟨D3, _, rfl, Same.up s5 nD3, upd_same, TVs.imp (same_tup (Same.up s5 nD3)) _ _ tvs⟩⟩
      | false => exact iteF (mid3 _ _ ⟨D2, l, rfl, s5, eD2, hl hca⟩)
    rintro σ' H6 ⟨D3, l3, rfl, s6, eD3, tvs⟩
    have lw3 := TVs.len tvs
    have etf : tf ms mo ps t = tfL ms mo ps (kids t) := by rw [tf_kids, ht, Option.none_or]
    refine ⟨_, rfl, D3, rfl, ⟨_, SqL.of eD3⟩, for_list (K := K) (a := D3) (xs := l3) (fun i σ H' => ∃ (y5 y7 : Option V), σ = [some (.ref dm), some (.str (S mo)), some (.ref a), some (.ref pr), some (.str wd), y5, some (.ref D3), y7] ∧ Same H6 H' ∧ tfL ms mo ps ((kids t).take i) = none)
      ⟨_, _, rfl, Same.refl _, rfl⟩ (fun i σ H' _ hI => ?_) (fun i x σ H' hx hI => ?_) (fun σ H' hI => ?_)⟩
    · obtain ⟨_, _, rfl, s7, _⟩ := hI
      exact SqL.of (s7 _ _ eD3)
    · obtain ⟨y5, y7, rfl, s7, hno⟩ := hI
      obtain ⟨c, hc, tc⟩ := TVs.get tvs hx
      have tk : (kids t).take (i + 1) = (kids t).take i ++ [c] := by rw [List.take_add_one, hc]; rfl
      have hc1 := kids_hgt (List.mem_of_getElem? hc)
      have s07 : Same H H' := fun z o e => s7 _ _ (s6 _ _ e)
      refine ⟨_, rfl, _, rfl, _, rfl, _, rfl, dm, ms, mo, x, c, pr, ps, rfl, hM.same s07, lw, TV.imp (same_tup s7) c x tc, by omega, s07 _ _ hp, fun H8 v s8 hv => ?_⟩
      have s08 : Same H H8 := fun z o e => s8 _ _ (s07 _ _ e)
      refine ⟨_, rfl, rfl, _, rfl, ?_⟩
      rw [optF_non hv]
      cases hf : tf ms mo ps c with
      | some fl =>
        rw [hf] at hv
        refine iteT ⟨_, rfl, q _ _ s08 ?_⟩
        have ek : kids t = (kids t).take (i + 1) ++ (kids t).drop (i + 1) := (List.take_append_drop _ _).symm
        rw [etf, ek, tfL_app, tk, tfL_app, hno, tfL, hf]
        exact hv
      | none =>
        refine iteF ⟨_, _, rfl, fun z o e => s8 _ _ (s7 _ _ e), ?_⟩
        rw [tk, tfL_app, hno, tfL, hf, tfL]
        rfl
    · obtain ⟨y5, y7, rfl, s7, hno⟩ := hI
      rw [lw3, List.take_length] at hno
      refine q _ _ (fun z o e => s7 _ _ (s6 _ _ e)) ?_
      rw [etf, hno]
      rfl
theorem ok_ltree {f f1 : Addr} {fd fd1 : FuncData} (F : Fun K "_law_tree_fault" "_law_tree_fault" sLTree f fd) (T : Txt K mg) (m : mg "_law_tree_fault" = some (.ref f)) (kp : PySem.W.keepIn K (.ref f) = true) (bi : Binds K fd ["modules", "module", "tree", "inner"] [])
    (FU : FO P w K mg base CX0 4 "_law_use_fault" ["modules", "module", "tree", "inner"] spUse f1 fd1) : ∀ n, FnOk P w K mg base CX0 (4 + n) f fd ["modules", "module", "tree", "inner"] (spLTree n)
  | 0 => ⟨fun vs H Q E h => (no_ltree h).elim, fun A outer s H args us vs Q E hr e b v h => (no_ltree h).elim⟩
  | n + 1 => ok_ltree1 F T m kp bi FU (ok_ltree F T m kp bi FU n)
end
end K3

set_option maxRecDepth 100000
set_option maxHeartbeats 4000000
/-! the law's faults of lines, modules -/
namespace K3
open PySem hiding Tok code
open PySem.Spec PyProof.Rows GD K1
open L2 hiding rest
open K2 hiding Sp P
section
variable {P : Program} {w : World} {K : PySem.W.Frag} {mg : Str → Option Value} {base : Heap} {C : Addr}
def spLLine : L2.Sp := fun vs H Q _ => ∃ (dm : Addr) (ms : Mods) (m : NM) (v : V) (l : Ln), vs = [.ref dm, .str (S m), v] ∧ MD H dm ms ∧ LwOK ms m ∧ LV H v l ∧ LineC l ∧
  ∀ H' u, Same H H' → optV H' (FltV H') u (lf ms m l) → Q u H'
theorem scLLine : FnScope ["modules", "module", "line", "name", "called", "inner"] ["modules", "module", "line"] (defScope sLLine) := ⟨rfl, rfl, rfl, by decide +kernel, rfl, by decide +kernel, by decide +kernel⟩
theorem ok_lline {f f1 f2 : Addr} {fd fd1 fd2 : FuncData} (F : Fun K "_law_line_fault" "_law_line_fault" sLLine f fd)
    (FF : FO P w K mg base CX0 2 "_law_follow" ["modules", "module", "name"] spLFol f1 fd1) (FT : FO P w K mg base CX0 16 "_law_tree_fault" ["modules", "module", "tree", "inner"] (spLTree 12) f2 fd2) : FnOk P w K mg base CX0 17 f fd ["modules", "module", "line"] spLLine := by
  have sc := scLLine
  refine F.ok sc (fun vs H Q E h => ?_) (fun cdv A outer s H vs Q E hr h => ?_)
  · obtain ⟨dm, ms, m, v, l, rfl, _⟩ := h
    rfl
  · obtain ⟨dm, ms, m, v, l, rfl, hM, lw, lv, lc, q⟩ := h
    refine ⟨_, (pss_cons (ps_if (pt_cmpR op_in_seq (pe_ix ix_tup (pv 2) pe_int (fun _ _ => rfl)) (pe_tup (pa_cons pe_str (pa_cons pe_str pa_nil))) rfl)
      (pss_cons (ps_for PassesOwn.never rfl (pi_tup (pe_ix ix_tup (pv 2) pe_int (fun _ _ => rfl))) (pg_tup rfl (pgs_cons (pg_name (i := 3) sc.nd rfl (Or.inl rfl)) (pgs_cons (pg_name (i := 4) sc.nd rfl (Or.inl rfl)) pgs_nil)))
      (pss_one (ps_if (pt_cmpR op_isN (pe_call FF.ok (hr.mono (by decide)) (by rfl) FF.m FF.kp FF.b .nil pass0 (pa_cons (pv 0) (pa_cons (pe_ix ix_tup (pv 2) pe_int (fun _ _ => rfl)) (pa_cons (pv 3) pa_nil)))) pe_non (nomark _))
      (pss_one (ps_ret (pe_tup (pa_cons pe_str (pa_cons (pe_ix ix_tup (pv 2) pe_int (fun _ _ => rfl)) (pa_cons (pv 3) pa_nil))))))
      pss_nil)))
      (pss_one (ps_ret pe_non)))
      pss_nil)
      (pss_cons (ps_set (i := 5) sc.nd rfl (Or.inl rfl) (pe_tup pa_nil))
      (pss_cons (ps_if (pt_cmpR op_eq (pe_ix ix_tup (pv 2) pe_int (fun _ _ => rfl)) pe_str (nomark _))
      (pss_one (ps_set (i := 5) sc.nd rfl (Or.inl rfl) (pe_ix ix_tup (pv 2) pe_int (fun _ _ => rfl))))
      pss_nil)
      (pss_one (ps_ret (pe_call FT.ok hr (by rfl) FT.m FT.kp FT.b .nil pass0 (pa_cons (pv 0) (pa_cons (pv 1) (pa_cons (pe_ix ix_tup (pv 2) (pe_un un_neg pe_int) (fun _ _ => rfl)) (pa_cons (pv 5) pa_nil)))))))))), ?_⟩
    have hd := LV.hd lv
    obtain ⟨a, xs, rfl, ha, _⟩ := hd
    refine ⟨_, rfl, a, _, _, _, rfl, rfl, SqT.of ha, atI_nat (j := 0) rfl, two_le, fun z1 nz1 => ?_⟩
    have s1 := Same.lst (o := .tup LISTv) (Same.refl H) nz1
    refine ⟨z1, LISTv, rfl, .inr (SqT.of upd_same), rfl, rfl, _, rfl, ?_⟩
    rw [show (if false = true then !inV (V.str (lnW l)) LISTv else inV (V.str (lnW l)) LISTv) = (lnT l).isSome from list_in l]
    have s1 : Same H (upd H z1 (.tup [.str "import", .str "export"])) := s1
    generalize upd H z1 (.tup [.str "import", .str "export"]) = H1 at *
    cases htr : trOf l with
    | none =>
      cases l with
      | lt _ _ _ => cases htr
      | fn _ _ _ => cases htr
      | dw _ _ => cases htr
      | lst wd ps t =>
        obtain ⟨a', r, us, ea, h1, h2, pl⟩ := lv
        cases ea
        refine iteT ?_
        refine ⟨_, rfl, a, _, _, _, rfl, rfl, SqT.of (s1 _ _ h1), atI_nat (j := 1) rfl, r, rfl, ⟨_, SqT.of (s1 _ _ h2)⟩, for_tup (K := K) (a := r) (xs := us) (fun i σ H' => ∃ (y3 y4 y5 : Option V), σ = [some (.ref dm), some (.str (S m)), some (.ref a), y3, y4, y5] ∧ Same H H' ∧ ps.findSome? (lstF ms t) = (ps.drop i).findSome? (lstF ms t))
          ⟨_, _, _, rfl, s1, rfl⟩ (fun i σ H' _ hI => ?_) (fun i x σ H' hx hI => ?_) (fun σ H' hI => ?_)⟩
        · obtain ⟨_, _, _, rfl, s2, _⟩ := hI
          exact SqT.of (s2 _ _ h2)
        · obtain ⟨y3, y4, y5, rfl, s2, he⟩ := hI
          obtain ⟨pr, hpr, b, rfl, hb⟩ := pairGetR pl hx
          refine ⟨b, _, rfl, .inl (.inl (s2 _ _ hb)), rfl, _, _, rfl, _, _, rfl, rfl, ?_⟩
          refine ⟨_, rfl, _, rfl, a, _, _, _, rfl, rfl, SqT.of (s2 _ _ h1), atI_nat (j := 2) rfl, _, rfl, dm, ms, t, pr.1, rfl, hM.same s2, lw.ex, fun H2 u s3 hu => ?_⟩
          have s02 : Same H H2 := fun z o e => s3 _ _ (s2 _ _ e)
          refine ⟨rfl, _, rfl, ?_⟩
          rw [optP_non hu]
          cases ht : (turns ms 100 (t, pr.1)).isNone with
          | true =>
            have el : lstF ms t pr = some ⟨"name", t, pr.1⟩ := if_pos ht
            refine iteT ⟨_, rfl, a, _, _, _, rfl, rfl, SqT.of (s02 _ _ h1), atI_nat (j := 2) rfl, _, rfl, three_le, fun z nz => q _ _ (Same.up s02 nz) ?_⟩
            show optV _ (FltV _) _ (ps.findSome? (lstF ms t))
            rw [fs_some hpr el he]
            exact ⟨z, rfl, upd_same⟩
          | false =>
            have el : lstF ms t pr = none := if_neg (by rw [ht]; decide)
            exact iteF ⟨_, _, _, rfl, s02, fs_none hpr el he⟩
        · obtain ⟨y3, y4, y5, rfl, s2, he⟩ := hI
          refine q _ _ s2 ?_
          show optV _ (FltV _) _ (ps.findSome? (lstF ms t))
          rw [fs_end (Nat.le_of_eq (Paired.length pl).symm) he]
          rfl
    | some t =>
      obtain ⟨el, h12⟩ := lf_tree (ms := ms) (m := m) htr
      rw [el] at q
      obtain ⟨a', ys, u, ea, ha', tv, hT, hp⟩ := LV.body lv htr
      cases ea
      rw [hT]
      refine iteF ?_
      refine nxp ?_
      refine ⟨Nat.zero_le _, fun z2 nz2 => ?_⟩
      have s2 := Same.up (o := .tup []) s1 nz2
      have e2 : upd H1 z2 (.tup []) z2 = some (.tup []) := upd_same
      generalize upd H1 z2 (.tup []) = H2 at *
      refine gn ?_
      refine nxp ?_
      refine seq_mid (A := tIfS _ _ _) (fun σ' H' => ∃ pr, σ' = [some (.ref dm), some (.str (S m)), some (.ref a), none, none, some (.ref pr)] ∧ Same H H' ∧ H' pr = some (.tup (sts (psOf l)))) ?_ (fun mid => ?_)
      rotate_left
      · refine ⟨_, rfl, a, _, _, _, rfl, rfl, SqT.of (s2 _ _ ha'), atI_nat (j := 0) rfl, rfl, _, rfl, ?_⟩
        rcases hp with ⟨g, ps, rfl, r, hr1, hr2⟩ | ⟨hw, hps⟩
        · refine iteT' rfl ⟨_, rfl, a, _, _, _, rfl, rfl, SqT.of (s2 _ _ ha'), atI_nat (j := 2) (v := .ref r) ?_, mid _ _ ⟨r, rfl, s2, s2 _ _ hr2⟩⟩
          show (ys ++ [u])[1]? = some (V.ref r)
          rw [List.getElem?_append_left (List.getElem?_eq_some_iff.mp hr1).1]
          exact hr1
        · refine iteF' (by simp [hw]) (mid _ _ ⟨z2, rfl, s2, ?_⟩)
          rw [hps]
          exact e2
      rintro σ' H3 ⟨pr, rfl, s3, hpr⟩
      refine ⟨_, rfl, _, rfl, _, rfl, _, rfl, a, _, _, u, rfl, rfl, SqT.of (s3 _ _ ha'), atI_last _ _, _, rfl, ?_⟩
      exact ⟨dm, ms, m, u, t, pr, psOf l, rfl, hM.same s3, lw, TV.imp (same_tup s3) t u tv, h12 lc, hpr, fun H' v s4 hv => q _ _ (fun z o e => s4 _ _ (s3 _ _ e)) hv⟩
def spLNames : L2.Sp := fun vs H Q _ => ∃ (dm e : Addr) (ms : Mods) (ord : List NM), vs = [.ref dm, .ref e] ∧ MD H dm ms ∧ H e = some (.tup (sts ord)) ∧ (∀ m ∈ ord, (mget ms m).isSome = true ∧ LwOK ms m ∧ ∀ l ∈ linesOf ms m, LineC l) ∧
  ∀ H' u, Same H H' → optV H' (FltV H') u (nf ms ord) → Q u H'
theorem scLNames : FnScope ["modules", "order", "module", "line", "fault"] ["modules", "order"] (defScope sLNames) := ⟨rfl, rfl, rfl, by decide +kernel, rfl, by decide +kernel, by decide +kernel⟩
theorem ok_lnames {f f1 : Addr} {fd fd1 : FuncData} (F : Fun K "_law_names_fault" "_law_names_fault" sLNames f fd) (FL : FO P w K mg base CX0 17 "_law_line_fault" ["modules", "module", "line"] spLLine f1 fd1) : FnOk P w K mg base CX0 18 f fd ["modules", "order"] spLNames := by
  have sc := scLNames
  refine F.ok sc (fun vs H Q E h => ?_) (fun cdv A outer s H vs Q E hr h => ?_)
  · obtain ⟨dm, e, ms, ord, rfl, _⟩ := h
    rfl
  · obtain ⟨dm, e, ms, ord, rfl, hM, he, hc, q⟩ := h
    refine ⟨_, (pss_cons (ps_for PassesOwn.never rfl (pi_tup (pv 1)) (pg_name (i := 2) sc.nd rfl (Or.inl rfl))
      (pss_one (ps_for PassesOwn.never rfl (pi_tup (pe_dget (hu_of hr) (pv 0) (pv 2) (fun _ _ => rfl))) (pg_name (i := 3) sc.nd rfl (Or.inl rfl))
      (pss_cons (ps_set (i := 4) sc.nd rfl (Or.inl rfl) (pe_call FL.ok hr (by rfl) FL.m FL.kp FL.b .nil pass0 (pa_cons (pv 0) (pa_cons (pv 2) (pa_cons (pv 3) pa_nil)))))
      (pss_one (ps_if (pt_cmpR op_notN (pv 4) pe_non (nomark _))
      (pss_one (ps_ret (pv 4)))
      pss_nil))))))
      (pss_one (ps_ret pe_non))), ?_⟩
    refine ⟨_, rfl, e, rfl, ⟨_, SqT.of he⟩, for_tup (K := K) (a := e) (xs := sts ord) (fun i σ H' => ∃ (y2 y3 y4 : Option V), σ = [some (.ref dm), some (.ref e), y2, y3, y4] ∧ Same H H' ∧ nf ms ord = (ord.drop i).findSome? fun m => (linesOf ms m).findSome? (lf ms m))
      ⟨none, none, none, rfl, Same.refl _, rfl⟩ (fun i σ H' _ hI => ?_) (fun i x σ H' hx hI => ?_) (fun σ H' hI => ?_)⟩
    · obtain ⟨y2, y3, y4, rfl, s1, _⟩ := hI
      exact SqT.of (s1 _ _ he)
    · obtain ⟨y2, y3, y4, rfl, s1, hn⟩ := hI
      rw [List.getElem?_map, Option.map_eq_some_iff] at hx
      obtain ⟨m, hm, rfl⟩ := hx
      obtain ⟨c1, c2, c3⟩ := hc m (List.mem_of_getElem? hm)
      obtain ⟨o, g1, g2, g3⟩ := kk_in (hM.same s1) m
      obtain ⟨ls, els⟩ := Option.isSome_iff_exists.mp c1
      obtain ⟨b, vs, rfl, hb, lvs⟩ := g3 ls els
      have eln : linesOf ms m = ls := by unfold linesOf; rw [els]; rfl
      rw [eln] at c3
      refine ⟨_, rfl, _, rfl, dm, _, rfl, g1, b, rfl, ⟨_, SqT.of hb⟩, for_tup (K := K) (a := b) (xs := vs) (fun j σ H' => ∃ (y3 y4 : Option V), σ = [some (.ref dm), some (.ref e), some (.str (S m)), y3, y4] ∧ Same H H' ∧ H' b = some (.tup vs) ∧ LVs H' vs ls ∧ ls.findSome? (lf ms m) = (ls.drop j).findSome? (lf ms m))
        ⟨_, _, rfl, s1, hb, lvs, rfl⟩ (fun j σ H' _ hI => ?_) (fun j v σ H' hv hI => ?_) (fun σ H' hI => ?_)⟩
      · obtain ⟨y3, y4, rfl, s2, hb2, _⟩ := hI
        exact SqT.of hb2
      · obtain ⟨y3, y4, rfl, s2, hb2, lvs2, hl⟩ := hI
        obtain ⟨l, hl2, lv⟩ := pairGetR lvs2 hv
        refine ⟨_, rfl, _, rfl, _, rfl, dm, ms, m, v, l, rfl, hM.same s2, c2, lv, c3 l (List.mem_of_getElem? hl2), fun H3 u s3 hu => ?_⟩
        have s03 : Same H H3 := fun z o e => s3 _ _ (s2 _ _ e)
        refine ⟨_, rfl, rfl, _, rfl, ?_⟩
        rw [optF_non hu]
        cases hf : lf ms m l with
        | some fl =>
          rw [hf] at hu
          refine iteT ⟨_, rfl, q _ _ s03 ?_⟩
          rw [show nf ms ord = some fl from fs_some hm (by show (linesOf ms m).findSome? _ = _; rw [eln]; exact fs_some hl2 hf hl) hn]
          exact hu
        | none => exact iteF ⟨_, _, rfl, s03, s3 _ _ hb2, LVs.imp (same_tup s3) lvs2, fs_none hl2 hf hl⟩
      · obtain ⟨y3, y4, rfl, s2, hb2, lvs2, hl⟩ := hI
        exact ⟨_, _, _, rfl, s2, fs_none hm (by show (linesOf ms m).findSome? _ = _; rw [eln]; exact fs_end (Nat.le_of_eq (Paired.length lvs2).symm) hl) hn⟩
    · obtain ⟨y2, y3, y4, rfl, s1, hn⟩ := hI
      refine q _ _ s1 ?_
      rw [List.length_map] at hn
      rw [show nf ms ord = none from fs_end (Nat.le_refl _) hn]
      rfl
end
end K3

set_option maxRecDepth 100000
set_option maxHeartbeats 4000000
/-! wrong trees -/
namespace K3
open PySem hiding Tok code
open PySem.Spec PyProof.Rows GD K1
open L2 hiding rest
open K2 hiding Sp P
abbrev sWT : Stmt := topS 38
abbrev sWL : Stmt := topS 39
def noneN : NM := code "none"
def nineN : NM := code "nine"
theorem TVs.push {H : Hp} {ts : List Tr} {vs : List V} {p : Addr} {o : HO} {t : Tr} {v : V} (all : TVs H ts vs) (np : H p = none) (h : TV (upd H p o) t v) : TVs (upd H p o) (ts ++ [t]) (vs ++ [v]) :=
  TVs.snoc h (TVs.imp (newtup np) ts vs all)
theorem tv_name {H : Hp} {p : Addr} {x : NM} : TV (upd H p (.tup [.str "name", .str (S x)])) (.name x) (.ref p) := by
  rw [TV]; exact ⟨p, rfl, upd_same⟩
theorem tv_num {H : Hp} {p : Addr} {n : Nat} : TV (upd H p (.tup [.str "number", .int (n : Nat)])) (.num n) (.ref p) := by
  rw [TV]; exact ⟨p, rfl, upd_same⟩
theorem tv_set {H : Hp} {p : Addr} {x : NM} {t : Tr} {v : V} (np : H p = none) (h : TV H t v) : TV (upd H p (.tup [.str "set", .str (S x), v])) (.set x t) (.ref p) := by
  rw [TV]; exact ⟨p, v, rfl, upd_same, TV.imp (newtup np) t v h⟩
theorem tv_seq {H : Hp} {p : Addr} {t1 t2 : Tr} {v1 v2 : V} (np : H p = none) (h1 : TV H t1 v1) (h2 : TV H t2 v2) : TV (upd H p (.tup [.str "then", v1, v2])) (.seq t1 t2) (.ref p) := by
  rw [TV]; exact ⟨p, v1, v2, rfl, upd_same, TV.imp (newtup np) _ _ h1, TV.imp (newtup np) _ _ h2⟩
theorem tv_op {H : Hp} {p : Addr} {t1 t2 : Tr} {v1 v2 : V} (np : H p = none) (h1 : TV H t1 v1) (h2 : TV H t2 v2) : TV (upd H p (.tup [.str "+", v1, v2])) (.op 43 t1 t2) (.ref p) := by
  rw [TV]; exact ⟨p, v1, v2, rfl, upd_same, TV.imp (newtup np) _ _ h1, TV.imp (newtup np) _ _ h2, by decide⟩
theorem tv_ite {H : Hp} {p : Addr} {t1 t2 t3 : Tr} {v1 v2 v3 : V} (np : H p = none) (h1 : TV H t1 v1) (h2 : TV H t2 v2) (h3 : TV H t3 v3) : TV (upd H p (.tup [.str "if", v1, v2, v3])) (.ite t1 t2 t3) (.ref p) := by
  rw [TV]; exact ⟨p, v1, v2, v3, rfl, upd_same, TV.imp (newtup np) _ _ h1, TV.imp (newtup np) _ _ h2, TV.imp (newtup np) _ _ h3⟩
theorem tv_call {H : Hp} {p a : Addr} {x : NM} {as : List Tr} {vs : List V} (np : H p = none) (ha : H a = some (.tup vs)) (h : TVs H as vs) (hl : as.length ≤ 5000) : TV (upd H p (.tup [.str "call", .str (S x), .ref a])) (.call x as) (.ref p) := by
  rw [TV]; exact ⟨p, a, vs, rfl, upd_same, newtup np _ _ ha, TVs.imp (newtup np) _ _ h, hl⟩
theorem tvs_nil {H : Hp} : TVs H [] [] := by rw [TVs]
theorem noneS : Str.ofString "none" = S noneN := (S_of _).symm
theorem nineS : Str.ofString "nine" = S nineN := (S_of _).symm
theorem drN {d : Nat} {c : NM} (hc : c ∈ mods4) : ∀ z ∈ [120, 102, 103], Dr d (.name (z :: c)) ∧ nmB (z :: c) = true ∧ (z :: c).length ≤ 6 := by
  have : ∀ c ∈ mods4, ∀ z ∈ [120, 102, 103], nmB (z :: c) = true ∧ (z :: c).length ≤ 6 := by decide +kernel
  intro z hz
  obtain ⟨h1, h2⟩ := this c hc z hz
  exact ⟨.name h1 h2, h1, h2⟩
theorem drNone {d : Nat} : Dr d (.name noneN) := .name (by decide +kernel) (by decide +kernel)
theorem drNine {d : Nat} : Dr d (.name nineN) := .name (by decide +kernel) (by decide +kernel)
theorem nmNone : nmB noneN = true ∧ noneN.length ≤ 6 := by decide +kernel
section
variable {P : Program} {w : World} {K : PySem.W.Frag} {mg : Str → Option Value} {base : Heap} {C : Addr}
def spWT : L2.Sp := fun vs H Q _ => ∃ (b d : Addr) (ds : List Int) (n : Nat) (c : NM), vs = [.ref b, .str (S c)] ∧ Box H b d ds n ∧ c ∈ mods4 ∧ ∀ H' n' u t, Bs b d ds H H' n' → TV H' t u → Dr 3 t → Q u H'
theorem scWT : FnScope ["box", "name", "x", "menu", "tree", "kind"] ["box", "name"] (defScope sWT) := ⟨rfl, rfl, rfl, by decide +kernel, rfl, by decide +kernel, by decide +kernel⟩
theorem ok_wtree {f f1 : Addr} {fd fd1 : FuncData} (F : Fun K "_law_wrong_tree" "_law_wrong_tree" sWT f fd)
    (FD : FO P w K mg base CX0 1 "_law_draw" ["box", "many"] spDraw f1 fd1) : FnOk P w K mg base CX0 2 f fd ["box", "name"] spWT := by
  have sc := scWT
  refine F.ok sc (fun vs H Q E h => ?_) (fun cdv A outer s H vs Q E hr h => ?_)
  · obtain ⟨b, d, ds, n, c, rfl, _⟩ := h
    rfl
  · obtain ⟨b, d, ds, n, c, rfl, hB, hc, q⟩ := h
    refine ⟨_, (pss_cons (ps_set (i := 2) sc.nd rfl (Or.inl rfl) (pe_tup (pa_cons pe_str (pa_cons (pe_op op_add_str pe_str (pv 1)) pa_nil))))
      (pss_cons (ps_set (i := 3) sc.nd rfl (Or.inl rfl) (pe_lst (pa_cons (pe_tup (pa_cons pe_str (pa_cons pe_str pa_nil))) (pa_cons (pe_tup (pa_cons pe_str (pa_cons (pe_op op_add_str pe_str (pv 1)) pa_nil))) (pa_cons (pe_tup (pa_cons pe_str (pa_cons (pe_op op_add_str pe_str (pv 1)) (pa_cons (pv 2) pa_nil)))) (pa_cons (pe_tup (pa_cons pe_str (pa_cons (pe_op op_add_str pe_str (pv 1)) (pa_cons (pe_tup pa_nil) pa_nil)))) (pa_cons (pe_tup (pa_cons pe_str (pa_cons (pe_op op_add_str pe_str (pv 1)) (pa_cons (pe_tup pa_nil) pa_nil)))) pa_nil)))))))
      (pss_cons (ps_set (i := 3) sc.nd rfl (Or.inl rfl) (pe_op op_cat (pv 3) (pe_lst (pa_cons (pe_tup (pa_cons pe_str (pa_cons (pe_op op_add_str pe_str (pv 1)) (pa_cons (pe_tup (pa_cons (pv 2) pa_nil)) pa_nil)))) (pa_cons (pe_tup (pa_cons pe_str (pa_cons pe_str (pa_cons (pe_tup (pa_cons pe_str (pa_cons pe_str pa_nil))) pa_nil)))) (pa_cons (pe_tup (pa_cons pe_str (pa_cons pe_str (pa_cons (pe_tup (pa_cons (pe_tup (pa_cons pe_str (pa_cons pe_str pa_nil))) pa_nil)) pa_nil)))) pa_nil))))))
      (pss_cons (ps_set (i := 4) sc.nd rfl (Or.inl rfl) (pe_ix ix_list (pv 3) (pe_call FD.ok hr (by rfl) FD.m FD.kp FD.b .nil pass0 (pa_cons (pv 0) (pa_cons pe_int pa_nil))) (fun _ _ => rfl)))
      (pss_cons (ps_set (i := 5) sc.nd rfl (Or.inl rfl) (pe_call FD.ok hr (by rfl) FD.m FD.kp FD.b .nil pass0 (pa_cons (pv 0) (pa_cons pe_int pa_nil))))
      (pss_cons (ps_if (pt_cmpR op_eq (pv 5) pe_int (nomark _))
      (pss_one (ps_ret (pe_tup (pa_cons pe_str (pa_cons (pv 2) (pa_cons (pv 4) pa_nil))))))
      pss_nil)
      (pss_cons (ps_if (pt_cmpR op_eq (pv 5) pe_int (nomark _))
      (pss_one (ps_ret (pe_tup (pa_cons pe_str (pa_cons (pv 2) (pa_cons (pv 2) (pa_cons (pv 4) pa_nil)))))))
      pss_nil)
      (pss_cons (ps_if (pt_cmpR op_eq (pv 5) pe_int (nomark _))
      (pss_one (ps_ret (pe_tup (pa_cons pe_str (pa_cons (pv 2) (pa_cons (pv 4) pa_nil))))))
      pss_nil)
      (pss_cons (ps_if (pt_cmpR op_eq (pv 5) pe_int (nomark _))
      (pss_one (ps_ret (pe_tup (pa_cons pe_str (pa_cons (pe_op op_add_str pe_str (pv 1)) (pa_cons (pv 4) pa_nil))))))
      pss_nil)
      (pss_cons (ps_if (pt_cmpR op_eq (pv 5) pe_int (nomark _))
      (pss_one (ps_ret (pe_tup (pa_cons pe_str (pa_cons (pv 2) (pa_cons (pv 4) (pa_cons (pe_tup (pa_cons pe_str (pa_cons pe_str pa_nil))) pa_nil)))))))
      pss_nil)
      (pss_cons (ps_if (pt_cmpR op_eq (pv 5) pe_int (nomark _))
      (pss_one (ps_ret (pe_tup (pa_cons pe_str (pa_cons (pe_op op_add_str pe_str (pv 1)) (pa_cons (pe_tup (pa_cons (pv 4) pa_nil)) pa_nil))))))
      pss_nil)
      (pss_cons (ps_if (pt_cmpR op_eq (pv 5) pe_int (nomark _))
      (pss_one (ps_ret (pe_tup (pa_cons pe_str (pa_cons (pe_tup (pa_cons pe_str (pa_cons (pe_op op_add_str pe_str (pv 1)) (pa_cons (pv 4) pa_nil)))) (pa_cons (pe_tup (pa_cons pe_str (pa_cons pe_str pa_nil))) pa_nil))))))
      pss_nil)
      (pss_one (ps_ret (pv 4))))))))))))))), ?_⟩
    have c1 : c.length = 1 := (own_names c hc).2.2.2.2
    have ex : Str.ofString "x" ++ S c = S (120 :: c) := S_app [120] c
    have ef : Str.ofString "f" ++ S c = S (102 :: c) := S_app [102] c
    have eg : Str.ofString "g" ++ S c = S (103 :: c) := S_app [103] c
    have lx : ∀ z : Str, z.length ≤ 1 → z.length + (S c).length ≤ sizeLine := fun z h => addLe h (SLe (n := 1) (by omega)) (by decide)
    obtain ⟨dx, nx1, nx2⟩ := drN (d := 0) hc 120 (by decide)
    obtain ⟨df, nf1, nf2⟩ := drN (d := 0) hc 102 (by decide)
    obtain ⟨dg, ng1, ng2⟩ := drN (d := 0) hc 103 (by decide)
    have bb := Bs.refl hB
    refine ⟨_, rfl, _, _, rfl, rfl, lx _ (by decide), two_le, fun p0 n0 => ?_⟩
    rw [ex]
    have bb := bb.new (o := .tup [.str "name", .str (S (120 :: c))]) n0
    have hx : TV (upd H p0 (.tup [.str "name", .str (S (120 :: c))])) (.name (120 :: c)) (.ref p0) := tv_name
    have all : TVs (upd H p0 (.tup [.str "name", .str (S (120 :: c))])) [] [] := tvs_nil
    generalize upd H p0 (.tup [.str "name", .str (S (120 :: c))]) = H1 at *
    refine ⟨two_le, fun p1 n1 => ?_⟩
    rw [noneS]
    have bb := bb.new (o := .tup [.str "name", .str (S noneN)]) n1
    have all := TVs.push all n1 (tv_name (x := noneN))
    have hx := TV.imp (newtup (o := .tup [.str "name", .str (S noneN)]) n1) _ _ hx
    generalize upd H1 p1 (.tup [.str "name", .str (S noneN)]) = H2 at *
    refine ⟨_, rfl, _, _, rfl, rfl, lx _ (by decide), two_le, fun p2 n2 => ?_⟩
    rw [ef]
    have bb := bb.new (o := .tup [.str "name", .str (S (102 :: c))]) n2
    have all := TVs.push all n2 (tv_name (x := 102 :: c))
    have hx := TV.imp (newtup (o := .tup [.str "name", .str (S (102 :: c))]) n2) _ _ hx
    generalize upd H2 p2 (.tup [.str "name", .str (S (102 :: c))]) = H3 at *
    refine ⟨_, rfl, _, _, rfl, rfl, lx _ (by decide), _, rfl, three_le, fun p3 n3 => ?_⟩
    rw [eg]
    have bb := bb.new (o := .tup [.str "set", .str (S (103 :: c)), .ref p0]) n3
    have all := TVs.push all n3 (tv_set (x := 103 :: c) n3 hx)
    have hx := TV.imp (newtup (o := .tup [.str "set", .str (S (103 :: c)), .ref p0]) n3) _ _ hx
    generalize upd H3 p3 (.tup [.str "set", .str (S (103 :: c)), .ref p0]) = H4 at *
    refine ⟨_, rfl, _, _, rfl, rfl, lx _ (by decide), Nat.zero_le _, fun e4 m4 => ?_⟩
    rw [ex]
    have bb := bb.new (o := .tup []) m4
    have all := TVs.imp (newtup (o := .tup []) m4) _ _ all
    have hx := TV.imp (newtup (o := .tup []) m4) _ _ hx
    have he := (upd_same : upd H4 e4 (.tup []) e4 = _)
    generalize upd H4 e4 (.tup []) = H5 at *
    refine ⟨three_le, fun p4 n4 => ?_⟩
    have bb := bb.new (o := .tup [.str "call", .str (S (120 :: c)), .ref e4]) n4
    have all := TVs.push all n4 (tv_call (x := 120 :: c) (as := []) n4 he tvs_nil (Nat.zero_le _))
    have hx := TV.imp (newtup (o := .tup [.str "call", .str (S (120 :: c)), .ref e4]) n4) _ _ hx
    generalize upd H5 p4 (.tup [.str "call", .str (S (120 :: c)), .ref e4]) = H6 at *
    refine ⟨_, rfl, _, _, rfl, rfl, lx _ (by decide), Nat.zero_le _, fun e5 m5 => ?_⟩
    rw [ef]
    have bb := bb.new (o := .tup []) m5
    have all := TVs.imp (newtup (o := .tup []) m5) _ _ all
    have hx := TV.imp (newtup (o := .tup []) m5) _ _ hx
    have he := (upd_same : upd H6 e5 (.tup []) e5 = _)
    generalize upd H6 e5 (.tup []) = H7 at *
    refine ⟨three_le, fun p5 n5 => ?_⟩
    have bb := bb.new (o := .tup [.str "call", .str (S (102 :: c)), .ref e5]) n5
    have all := TVs.push all n5 (tv_call (x := 102 :: c) (as := []) n5 he tvs_nil (Nat.zero_le _))
    have hx := TV.imp (newtup (o := .tup [.str "call", .str (S (102 :: c)), .ref e5]) n5) _ _ hx
    generalize upd H7 p5 (.tup [.str "call", .str (S (102 :: c)), .ref e5]) = H8 at *
    refine ⟨(show 5 ≤ sizeLine by decide), fun L1 nL1 => ?_⟩
    have bb := bb.new (o := .lst [.ref p1, .ref p2, .ref p3, .ref p4, .ref p5]) nL1
    have all := TVs.imp (newtup (o := .lst [.ref p1, .ref p2, .ref p3, .ref p4, .ref p5]) nL1) _ _ all
    have hx := TV.imp (newtup (o := .lst [.ref p1, .ref p2, .ref p3, .ref p4, .ref p5]) nL1) _ _ hx
    have el1 := (upd_same : upd H8 L1 (.lst [.ref p1, .ref p2, .ref p3, .ref p4, .ref p5]) L1 = _)
    generalize upd H8 L1 (.lst [.ref p1, .ref p2, .ref p3, .ref p4, .ref p5]) = H9 at *
    refine ⟨_, rfl, _, rfl, _, _, rfl, rfl, lx _ (by decide), _, rfl, one_le, fun e6 m6 => ?_⟩
    rw [eg]
    have bb := bb.new (o := .tup [.ref p0]) m6
    have all := TVs.imp (newtup (o := .tup [.ref p0]) m6) _ _ all
    have hx := TV.imp (newtup (o := .tup [.ref p0]) m6) _ _ hx
    have el1 := (by rw [upd_ne (ne_of_none el1 m6)]; exact el1 : upd H9 e6 (.tup [.ref p0]) L1 = some (.lst [.ref p1, .ref p2, .ref p3, .ref p4, .ref p5]))
    have he := (upd_same : upd H9 e6 (.tup [.ref p0]) e6 = _)
    generalize upd H9 e6 (.tup [.ref p0]) = H10 at *
    refine ⟨three_le, fun p6 n6 => ?_⟩
    have bb := bb.new (o := .tup [.str "call", .str (S (103 :: c)), .ref e6]) n6
    have all := TVs.push all n6 (tv_call (x := 103 :: c) (as := [.name (120 :: c)]) n6 he (TVs.one hx) (Nat.le_of_ble_eq_true rfl))
    have hx := TV.imp (newtup (o := .tup [.str "call", .str (S (103 :: c)), .ref e6]) n6) _ _ hx
    have el1 := (by rw [upd_ne (ne_of_none el1 n6)]; exact el1 : upd H10 p6 (.tup [.str "call", .str (S (103 :: c)), .ref e6]) L1 = some (.lst [.ref p1, .ref p2, .ref p3, .ref p4, .ref p5]))
    generalize upd H10 p6 (.tup [.str "call", .str (S (103 :: c)), .ref e6]) = H11 at *
    refine ⟨two_le, fun e7 m7 => ?_⟩
    rw [nineS]
    have bb := bb.new (o := .tup [.str "name", .str (S nineN)]) m7
    have all := TVs.imp (newtup (o := .tup [.str "name", .str (S nineN)]) m7) _ _ all
    have hx := TV.imp (newtup (o := .tup [.str "name", .str (S nineN)]) m7) _ _ hx
    have el1 := (by rw [upd_ne (ne_of_none el1 m7)]; exact el1 : upd H11 e7 (.tup [.str "name", .str (S nineN)]) L1 = some (.lst [.ref p1, .ref p2, .ref p3, .ref p4, .ref p5]))
    have hn := (tv_name : TV (upd H11 e7 (.tup [.str "name", .str (S nineN)])) (.name nineN) (.ref e7))
    generalize upd H11 e7 (.tup [.str "name", .str (S nineN)]) = H12 at *
    refine ⟨three_le, fun p7 n7 => ?_⟩
    have bb := bb.new (o := .tup [.str "set", .str (S noneN), .ref e7]) n7
    have all := TVs.push all n7 (tv_set (x := noneN) n7 hn)
    have hx := TV.imp (newtup (o := .tup [.str "set", .str (S noneN), .ref e7]) n7) _ _ hx
    have el1 := (by rw [upd_ne (ne_of_none el1 n7)]; exact el1 : upd H12 p7 (.tup [.str "set", .str (S noneN), .ref e7]) L1 = some (.lst [.ref p1, .ref p2, .ref p3, .ref p4, .ref p5]))
    generalize upd H12 p7 (.tup [.str "set", .str (S noneN), .ref e7]) = H13 at *
    refine ⟨two_le, fun e8 m8 => ?_⟩
    have bb := bb.new (o := .tup [.str "name", .str (S nineN)]) m8
    have all := TVs.imp (newtup (o := .tup [.str "name", .str (S nineN)]) m8) _ _ all
    have hx := TV.imp (newtup (o := .tup [.str "name", .str (S nineN)]) m8) _ _ hx
    have el1 := (by rw [upd_ne (ne_of_none el1 m8)]; exact el1 : upd H13 e8 (.tup [.str "name", .str (S nineN)]) L1 = some (.lst [.ref p1, .ref p2, .ref p3, .ref p4, .ref p5]))
    have hn := (tv_name : TV (upd H13 e8 (.tup [.str "name", .str (S nineN)])) (.name nineN) (.ref e8))
    generalize upd H13 e8 (.tup [.str "name", .str (S nineN)]) = H14 at *
    refine ⟨one_le, fun f8 k8 => ?_⟩
    have bb := bb.new (o := .tup [.ref e8]) k8
    have all := TVs.imp (newtup (o := .tup [.ref e8]) k8) _ _ all
    have hx := TV.imp (newtup (o := .tup [.ref e8]) k8) _ _ hx
    have el1 := (by rw [upd_ne (ne_of_none el1 k8)]; exact el1 : upd H14 f8 (.tup [.ref e8]) L1 = some (.lst [.ref p1, .ref p2, .ref p3, .ref p4, .ref p5]))
    have he := (upd_same : upd H14 f8 (.tup [.ref e8]) f8 = _)
    have hn := TV.imp (newtup (o := .tup [.ref e8]) k8) _ _ hn
    generalize upd H14 f8 (.tup [.ref e8]) = H15 at *
    refine ⟨three_le, fun p8 n8 => ?_⟩
    have bb := bb.new (o := .tup [.str "call", .str (S noneN), .ref f8]) n8
    have all := TVs.push all n8 (tv_call (x := noneN) (as := [.name nineN]) n8 he (TVs.one hn) (Nat.le_of_ble_eq_true rfl))
    have hx := TV.imp (newtup (o := .tup [.str "call", .str (S noneN), .ref f8]) n8) _ _ hx
    have el1 := (by rw [upd_ne (ne_of_none el1 n8)]; exact el1 : upd H15 p8 (.tup [.str "call", .str (S noneN), .ref f8]) L1 = some (.lst [.ref p1, .ref p2, .ref p3, .ref p4, .ref p5]))
    generalize upd H15 p8 (.tup [.str "call", .str (S noneN), .ref f8]) = H16 at *
    refine ⟨three_le, fun L2 nL2 => ?_⟩
    have bb := bb.new (o := .lst [.ref p6, .ref p7, .ref p8]) nL2
    have all := TVs.imp (newtup (o := .lst [.ref p6, .ref p7, .ref p8]) nL2) _ _ all
    have hx := TV.imp (newtup (o := .lst [.ref p6, .ref p7, .ref p8]) nL2) _ _ hx
    have el1 := (by rw [upd_ne (ne_of_none el1 nL2)]; exact el1 : upd H16 L2 (.lst [.ref p6, .ref p7, .ref p8]) L1 = some (.lst [.ref p1, .ref p2, .ref p3, .ref p4, .ref p5]))
    have el2 := (upd_same : upd H16 L2 (.lst [.ref p6, .ref p7, .ref p8]) L2 = _)
    generalize upd H16 L2 (.lst [.ref p6, .ref p7, .ref p8]) = H17 at *
    refine ⟨L1, L2, _, _, rfl, rfl, el1, el2, (show 8 ≤ sizeLine by decide), fun L3 nL3 => ?_⟩
    have bb := bb.new (o := .lst ([.ref p1, .ref p2, .ref p3, .ref p4, .ref p5] ++ [.ref p6, .ref p7, .ref p8])) nL3
    have all := TVs.imp (newtup (o := .lst ([.ref p1, .ref p2, .ref p3, .ref p4, .ref p5] ++ [.ref p6, .ref p7, .ref p8])) nL3) _ _ all
    have hx := TV.imp (newtup (o := .lst ([.ref p1, .ref p2, .ref p3, .ref p4, .ref p5] ++ [.ref p6, .ref p7, .ref p8])) nL3) _ _ hx
    have el3 : upd H17 L3 (.lst ([.ref p1, .ref p2, .ref p3, .ref p4, .ref p5] ++ [.ref p6, .ref p7, .ref p8])) L3 = _ := upd_same
    generalize upd H17 L3 (.lst ([.ref p1, .ref p2, .ref p3, .ref p4, .ref p5] ++ [.ref p6, .ref p7, .ref p8])) = H18 at *
    have l3b : L3 ≠ b := fun z => by rw [z, bb.box.1] at el3; cases el3
    have all : TVs H18 [.name noneN, .name (102 :: c), .set (103 :: c) (.name (120 :: c)), .call (120 :: c) [], .call (102 :: c) [], .call (103 :: c) [.name (120 :: c)], .set noneN (.name nineN), .call noneN [.name nineN]] ([.ref p1, .ref p2, .ref p3, .ref p4, .ref p5] ++ [.ref p6, .ref p7, .ref p8]) := all
    have dall : ∀ t ∈ ([.name noneN, .name (102 :: c), .set (103 :: c) (.name (120 :: c)), .call (120 :: c) [], .call (102 :: c) [], .call (103 :: c) [.name (120 :: c)], .set noneN (.name nineN), .call noneN [.name nineN]] : List Tr), Dr 1 t := fun t ht => by
      simp only [List.mem_cons, List.not_mem_nil, or_false] at ht
      rcases ht with rfl | rfl | rfl | rfl | rfl | rfl | rfl | rfl
      · exact drNone
      · exact df.more (by decide)
      · exact .set ng1 ng2 dx
      · exact .call nx1 nx2 (by decide) (fun t h => by cases h)
      · exact .call nf1 nf2 (by decide) (fun t h => by cases h)
      · exact .call ng1 ng2 (Nat.le_of_ble_eq_true rfl) (fun t h => by rw [List.mem_singleton.mp h]; exact dx)
      · exact .set nmNone.1 nmNone.2 drNine
      · exact .call nmNone.1 nmNone.2 (Nat.le_of_ble_eq_true rfl) (fun t h => by rw [List.mem_singleton.mp h]; exact drNine)
    refine ⟨_, rfl, _, rfl, b, d, ds, n, 8, rfl, bb.box, by decide, fun r0 h0 h1 => ?_⟩
    have kt : ∀ q xs, H18 q = some (.tup xs) → upd H18 b (.lst [.ref d, .int ((n + 1 : Nat) : Int)]) q = some (.tup xs) := fun q xs e => by rw [upd_ne (fun z => by rw [z, bb.box.1] at e; cases e)]; exact e
    have all := TVs.imp kt _ _ all
    have hx := TV.imp kt _ _ hx
    have el3 : upd H18 b (.lst [.ref d, .int ((n + 1 : Nat) : Int)]) L3 = _ := (upd_ne l3b).trans el3
    have bb := bb.draw
    generalize upd H18 b (.lst [.ref d, .int ((n + 1 : Nat) : Int)]) = H19 at *
    obtain ⟨j, rfl, hj⟩ := idx (m := 8) h0 h1
    obtain ⟨v, hv⟩ : ∃ v, ([V.ref p1, .ref p2, .ref p3, .ref p4, .ref p5] ++ [.ref p6, .ref p7, .ref p8])[j]? = some v := ⟨_, List.getElem?_eq_getElem (show j < 8 from hj)⟩
    obtain ⟨t, ht, tv⟩ := TVs.get all hv
    have dt := dall t (List.mem_of_getElem? ht)
    refine ⟨L3, _, _, v, rfl, rfl, SqL.of el3, atI_nat hv, ?_⟩
    refine ⟨_, rfl, b, d, ds, n + 1, 8, rfl, bb.box, by decide, fun r1 h2 h3 => ?_⟩
    have kt : ∀ q xs, H19 q = some (.tup xs) → upd H19 b (.lst [.ref d, .int ((n + 1 + 1 : Nat) : Int)]) q = some (.tup xs) := fun q xs e => by rw [upd_ne (fun z => by rw [z, bb.box.1] at e; cases e)]; exact e
    have tv := TV.imp kt _ _ tv
    have hx := TV.imp kt _ _ hx
    have bb := bb.draw
    generalize upd H19 b (.lst [.ref d, .int ((n + 1 + 1 : Nat) : Int)]) = H20 at *
    have d0 : Dr 1 (.name (120 :: c)) := dx.more (by decide)
    refine ⟨_, rfl, rfl, _, rfl, ite2 (fun _ => ?_) (fun _ => ?_)⟩
    · exact ⟨_, rfl, _, rfl, three_le, fun p np => q _ _ _ _ (bb.new np) (tv_op np hx tv) ((Dr.op (d := 1) (by decide) d0 dt).more (by decide))⟩
    refine ⟨_, rfl, rfl, _, rfl, ite2 (fun _ => ?_) (fun _ => ?_)⟩
    · exact ⟨_, rfl, _, rfl, _, rfl, (show 4 ≤ sizeLine by decide), fun p np => q _ _ _ _ (bb.new np) (tv_ite np hx hx tv) ((Dr.ite (d := 1) d0 d0 dt).more (by decide))⟩
    refine ⟨_, rfl, rfl, _, rfl, ite2 (fun _ => ?_) (fun _ => ?_)⟩
    · exact ⟨_, rfl, _, rfl, three_le, fun p np => q _ _ _ _ (bb.new np) (tv_seq np hx tv) ((Dr.seq (d := 1) d0 dt).more (by decide))⟩
    refine ⟨_, rfl, rfl, _, rfl, ite2 (fun _ => ?_) (fun _ => ?_)⟩
    · refine ⟨_, rfl, _, _, rfl, rfl, lx _ (by decide), _, rfl, three_le, fun p np => ?_⟩
      rw [ex]
      exact q _ _ _ _ (bb.new np) (tv_set np tv) ((Dr.set (d := 1) nx1 nx2 dt).more (by decide))
    refine ⟨_, rfl, rfl, _, rfl, ite2 (fun _ => ?_) (fun _ => ?_)⟩
    · refine ⟨_, rfl, _, rfl, two_le, fun e ne => ⟨(show 4 ≤ sizeLine by decide), fun p np => ?_⟩⟩
      exact q _ _ _ _ ((bb.new ne).new np) (tv_ite np (TV.imp (newtup ne) _ _ hx) (TV.imp (newtup ne) _ _ tv) tv_name) ((Dr.ite (d := 1) d0 dt drNine).more (by decide))
    refine ⟨_, rfl, rfl, _, rfl, ite2 (fun _ => ?_) (fun _ => ?_)⟩
    · refine ⟨_, rfl, _, _, rfl, rfl, lx _ (by decide), _, rfl, one_le, fun e ne => ⟨three_le, fun p np => ?_⟩⟩
      rw [ef]
      exact q _ _ _ _ ((bb.new ne).new np) (tv_call (as := [t]) np upd_same (TVs.one (TV.imp (newtup ne) _ _ tv)) (Nat.le_of_ble_eq_true rfl)) ((Dr.call (d := 1) nf1 nf2 (by simp) (fun x h => by rw [List.mem_singleton.mp h]; exact dt)).more (by decide))
    refine ⟨_, rfl, rfl, _, rfl, ite2 (fun _ => ?_) (fun _ => ?_)⟩
    · refine ⟨_, rfl, _, _, rfl, rfl, lx _ (by decide), _, rfl, three_le, fun e ne => ⟨two_le, fun g ng => ⟨three_le, fun p np => ?_⟩⟩⟩
      rw [ex]
      rw [ex] at ng np
      exact q _ _ _ _ (((bb.new ne).new ng).new np) (tv_seq np (TV.imp (newtup ng) _ _ (tv_set ne tv)) tv_name) (Dr.seq (d := 2) (Dr.set (d := 1) nx1 nx2 dt) drNine)
    · exact ⟨_, rfl, q _ _ _ _ bb tv (dt.more (by decide))⟩
end
end K3

set_option maxRecDepth 100000
set_option maxHeartbeats 4000000
/-! wrong lines -/
namespace K3
open PySem hiding Tok code
open PySem.Spec PyProof.Rows GD K1
open L2 hiding rest
open K2 hiding Sp P
def nnN : NM := code "nn"
def mmN : NM := code "mm"
def hN : NM := code "h"
inductive WLn (c : NM) : Ln → Prop
  | lt {k t} : Dr 3 t → WLn c (.lt k nnN t)
  | dw {k t} : Dr 3 t → WLn c (.dw k t)
  | imp : WLn c (.lst false [(120 :: c, mmN), (noneN, nnN)] c)
  | exp : WLn c (.lst true [(noneN, nnN)] c)
  | fn {t} : Dr 3 t → WLn c (.fn hN [[112]] t)
theorem nnS : Str.ofString "nn" = S nnN := (S_of _).symm
theorem mmS : Str.ofString "mm" = S mmN := (S_of _).symm
theorem hS' : Str.ofString "h" = S hN := (S_of _).symm
theorem pS' : Str.ofString "p" = S [112] := (S_of _).symm
theorem qS' : Str.ofString "q" = S [113] := (S_of _).symm
section
variable {P : Program} {w : World} {K : PySem.W.Frag} {mg : Str → Option Value} {base : Heap} {C : Addr}
def spWL : L2.Sp := fun vs H Q _ => ∃ (b d : Addr) (ds : List Int) (n : Nat) (c : NM), vs = [.ref b, .str (S c)] ∧ Box H b d ds n ∧ c ∈ mods4 ∧ ∀ H' n' u l, Bs b d ds H H' n' → LV H' u l → WLn c l → Q u H'
theorem scWL : FnScope ["box", "name", "kind"] ["box", "name"] (defScope sWL) := ⟨rfl, rfl, rfl, by decide +kernel, rfl, by decide +kernel, by decide +kernel⟩
theorem ok_wline {f f1 f2 : Addr} {fd fd1 fd2 : FuncData} (F : Fun K "_law_wrong_line" "_law_wrong_line" sWL f fd)
    (FD : FO P w K mg base CX0 1 "_law_draw" ["box", "many"] spDraw f1 fd1) (FT : FO P w K mg base CX0 2 "_law_wrong_tree" ["box", "name"] spWT f2 fd2) : FnOk P w K mg base CX0 3 f fd ["box", "name"] spWL := by
  have sc := scWL
  refine F.ok sc (fun vs H Q E h => ?_) (fun cdv A outer s H vs Q E hr h => ?_)
  · obtain ⟨b, d, ds, n, c, rfl, _⟩ := h
    rfl
  · obtain ⟨b, d, ds, n, c, rfl, hB, hc, q⟩ := h
    refine ⟨_, (pss_cons (ps_set (i := 2) sc.nd rfl (Or.inl rfl) (pe_call FD.ok (hr.mono (by decide)) (by rfl) FD.m FD.kp FD.b .nil pass0 (pa_cons (pv 0) (pa_cons pe_int pa_nil))))
      (pss_cons (ps_if (pt_cmpR op_eq (pv 2) pe_int (nomark _))
      (pss_one (ps_ret (pe_ix ix_list (pe_lst (pa_cons (pe_tup (pa_cons pe_str (pa_cons pe_str (pa_cons (pe_call FT.ok hr (by rfl) FT.m FT.kp FT.b .nil pass0 (pa_cons (pv 0) (pa_cons (pv 1) pa_nil))) pa_nil)))) (pa_cons (pe_tup (pa_cons pe_str (pa_cons pe_str (pa_cons (pe_call FT.ok hr (by rfl) FT.m FT.kp FT.b .nil pass0 (pa_cons (pv 0) (pa_cons (pv 1) pa_nil))) pa_nil)))) pa_nil))) (pe_call FD.ok (hr.mono (by decide)) (by rfl) FD.m FD.kp FD.b .nil pass0 (pa_cons (pv 0) (pa_cons pe_int pa_nil))) (fun _ _ => rfl))))
      pss_nil)
      (pss_cons (ps_if (pt_cmpR op_eq (pv 2) pe_int (nomark _))
      (pss_one (ps_ret (pe_tup (pa_cons pe_str (pa_cons (pe_call FT.ok hr (by rfl) FT.m FT.kp FT.b .nil pass0 (pa_cons (pv 0) (pa_cons (pv 1) pa_nil))) pa_nil)))))
      pss_nil)
      (pss_cons (ps_if (pt_cmpR op_eq (pv 2) pe_int (nomark _))
      (pss_one (ps_ret (pe_tup (pa_cons pe_str (pa_cons (pe_tup (pa_cons (pe_tup (pa_cons (pe_op op_add_str pe_str (pv 1)) (pa_cons pe_str pa_nil))) (pa_cons (pe_tup (pa_cons pe_str (pa_cons pe_str pa_nil))) pa_nil))) (pa_cons (pv 1) pa_nil))))))
      pss_nil)
      (pss_cons (ps_if (pt_cmpR op_eq (pv 2) pe_int (nomark _))
      (pss_one (ps_ret (pe_tup (pa_cons pe_str (pa_cons (pe_tup (pa_cons (pe_tup (pa_cons pe_str (pa_cons pe_str pa_nil))) pa_nil)) (pa_cons (pv 1) pa_nil))))))
      pss_nil)
      (pss_cons (ps_if (pt_cmpR op_eq (pv 2) pe_int (nomark _))
      (pss_one (ps_ret (pe_tup (pa_cons pe_str (pa_cons pe_str (pa_cons (pe_tup (pa_cons pe_str pa_nil)) (pa_cons (pe_ix ix_list (pe_lst (pa_cons (pe_tup (pa_cons pe_str (pa_cons pe_str (pa_cons (pe_tup (pa_cons pe_str (pa_cons pe_int pa_nil))) pa_nil)))) (pa_cons (pe_tup (pa_cons pe_str (pa_cons pe_str (pa_cons (pe_tup pa_nil) pa_nil)))) (pa_cons (pe_tup (pa_cons pe_str (pa_cons (pe_tup (pa_cons pe_str (pa_cons pe_str pa_nil))) (pa_cons (pe_tup (pa_cons pe_str (pa_cons pe_str pa_nil))) pa_nil)))) pa_nil)))) (pe_call FD.ok (hr.mono (by decide)) (by rfl) FD.m FD.kp FD.b .nil pass0 (pa_cons (pv 0) (pa_cons pe_int pa_nil))) (fun _ _ => rfl)) pa_nil)))))))
      pss_nil)
      (pss_one (ps_ret (pe_tup (pa_cons pe_str (pa_cons (pe_call FT.ok hr (by rfl) FT.m FT.kp FT.b .nil pass0 (pa_cons (pv 0) (pa_cons (pv 1) pa_nil))) pa_nil))))))))))), ?_⟩
    have c1 : c.length = 1 := (own_names c hc).2.2.2.2
    have ex : Str.ofString "x" ++ S c = S (120 :: c) := S_app [120] c
    have lx : ∀ z : Str, z.length ≤ 1 → z.length + (S c).length ≤ sizeLine := fun z h => addLe h (SLe (n := 1) (by omega)) (by decide)
    have kb : ∀ {H : Hp} {n n' : Nat}, Box H b d ds n → ∀ q xs, H q = some (.tup xs) → upd H b (.lst [.ref d, .int (n' : Nat)]) q = some (.tup xs) := fun hB q xs e => by rw [upd_ne (fun z => by rw [z, hB.1] at e; cases e)]; exact e
    refine ⟨_, rfl, b, d, ds, n, 8, rfl, hB, by decide, fun r0 h0 h1 => ?_⟩
    have bb := (Bs.refl hB).draw
    generalize upd H b (.lst [.ref d, .int ((n + 1 : Nat) : Int)]) = H1 at *
    refine ⟨_, rfl, rfl, _, rfl, ite2 (fun _ => ?_) (fun _ => ?_)⟩
    · -- let, keep
      refine ⟨_, rfl, _, rfl, b, d, ds, n + 1, c, rfl, bb.box, hc, fun H2 n2 u1 t1 b2 tv1 d1 => ⟨three_le, fun p1 np1 => ?_⟩⟩
      rw [nnS]
      have bb2 := (bb.trans b2).new (o := .tup [.str "let", .str (S nnN), u1]) np1
      have l1 : LV (upd H2 p1 (.tup [.str "let", .str (S nnN), u1])) (.ref p1) (.lt false nnN t1) := ⟨p1, u1, rfl, upd_same, TV.imp (newtup np1) _ _ tv1⟩
      generalize upd H2 p1 (.tup [.str "let", .str (S nnN), u1]) = H3 at *
      refine ⟨_, rfl, _, rfl, b, d, ds, n2, c, rfl, bb2.box, hc, fun H4 n4 u2 t2 b4 tv2 d2 => ⟨three_le, fun p2 np2 => ?_⟩⟩
      have l1 := LV.imp (Bs.tup b4 bb2.box) l1
      have bb4 := (bb2.trans b4).new (o := .tup [.str "keep", .str (S nnN), u2]) np2
      have l2 : LV (upd H4 p2 (.tup [.str "keep", .str (S nnN), u2])) (.ref p2) (.lt true nnN t2) := ⟨p2, u2, rfl, upd_same, TV.imp (newtup np2) _ _ tv2⟩
      have l1 := LV.imp (newtup (o := .tup [.str "keep", .str (S nnN), u2]) np2) l1
      generalize upd H4 p2 (.tup [.str "keep", .str (S nnN), u2]) = H5 at *
      refine ⟨two_le, fun L nL => ?_⟩
      have bb6 := bb4.new (o := .lst [.ref p1, .ref p2]) nL
      refine ⟨_, rfl, b, d, ds, n4, 2, rfl, bb6.box, by decide, fun r2 h2 h3 => ?_⟩
      obtain ⟨j, rfl, hj⟩ := idx (m := 2) h2 h3
      have Lb : L ≠ b := bb4.nb nL
      have eL : upd (upd H5 L (.lst [.ref p1, .ref p2])) b (.lst [.ref d, .int ((n4 + 1 : Nat) : Int)]) L = some (.lst [.ref p1, .ref p2]) := by rw [upd_ne Lb]; exact upd_same
      rcases (show j = 0 ∨ j = 1 by omega) with rfl | rfl
      · exact ⟨L, _, _, _, rfl, rfl, SqL.of eL, atI_nat (j := 0) rfl, q _ _ _ _ bb6.draw (LV.imp (kb bb6.box) (LV.imp (newtup nL) l1)) (.lt d1)⟩
      · exact ⟨L, _, _, _, rfl, rfl, SqL.of eL, atI_nat (j := 1) rfl, q _ _ _ _ bb6.draw (LV.imp (kb bb6.box) (LV.imp (newtup nL) l2)) (.lt d2)⟩
    refine ⟨_, rfl, rfl, _, rfl, ite2 (fun _ => ?_) (fun _ => ?_)⟩
    · refine ⟨_, rfl, _, rfl, b, d, ds, n + 1, c, rfl, bb.box, hc, fun H2 n2 u1 t1 b2 tv1 d1 => ⟨two_le, fun p1 np1 => ?_⟩⟩
      exact q _ _ _ (.dw true t1) ((bb.trans b2).new np1) ⟨p1, u1, rfl, upd_same, TV.imp (newtup np1) _ _ tv1⟩ (.dw d1)
    refine ⟨_, rfl, rfl, _, rfl, ite2 (fun _ => ?_) (fun _ => ?_)⟩
    · -- import
      refine ⟨_, rfl, _, _, rfl, rfl, lx _ (by decide), two_le, fun p1 np1 => ?_⟩
      rw [ex, noneS, mmS, nnS]
      have bb2 := bb.new (o := .tup [.str (S (120 :: c)), .str (S mmN)]) np1
      have e1 : upd H1 p1 (.tup [.str (S (120 :: c)), .str (S mmN)]) p1 = some (.tup [.str (S (120 :: c)), .str (S mmN)]) := upd_same
      generalize upd H1 p1 (.tup [.str (S (120 :: c)), .str (S mmN)]) = H2 at *
      refine ⟨two_le, fun p2 np2 => ?_⟩
      have bb3 := bb2.new (o := .tup [.str (S noneN), .str (S nnN)]) np2
      have e2 : upd H2 p2 (.tup [.str (S noneN), .str (S nnN)]) p2 = some (.tup [.str (S noneN), .str (S nnN)]) := upd_same
      have e1 := newtup (o := .tup [.str (S noneN), .str (S nnN)]) np2 _ _ e1
      generalize upd H2 p2 (.tup [.str (S noneN), .str (S nnN)]) = H3 at *
      refine ⟨two_le, fun p3 np3 => ?_⟩
      have bb4 := bb3.new (o := .tup [.ref p1, .ref p2]) np3
      have e3 : upd H3 p3 (.tup [.ref p1, .ref p2]) p3 = some (.tup [.ref p1, .ref p2]) := upd_same
      have e1 := newtup (o := .tup [.ref p1, .ref p2]) np3 _ _ e1
      have e2 := newtup (o := .tup [.ref p1, .ref p2]) np3 _ _ e2
      generalize upd H3 p3 (.tup [.ref p1, .ref p2]) = H4 at *
      refine ⟨_, rfl, three_le, fun p4 np4 => ?_⟩
      refine q _ _ _ (.lst false [(120 :: c, mmN), (noneN, nnN)] c) (bb4.new np4) ⟨p4, p3, _, rfl, upd_same, newtup np4 _ _ e3, ?_⟩ .imp
      exact .cons ⟨p1, rfl, newtup np4 _ _ e1⟩ (.cons ⟨p2, rfl, newtup np4 _ _ e2⟩ .nil)
    refine ⟨_, rfl, rfl, _, rfl, ite2 (fun _ => ?_) (fun _ => ?_)⟩
    · refine ⟨two_le, fun p2 np2 => ?_⟩
      rw [noneS, nnS]
      have bb3 := bb.new (o := .tup [.str (S noneN), .str (S nnN)]) np2
      have e2 : upd H1 p2 (.tup [.str (S noneN), .str (S nnN)]) p2 = some (.tup [.str (S noneN), .str (S nnN)]) := upd_same
      generalize upd H1 p2 (.tup [.str (S noneN), .str (S nnN)]) = H3 at *
      refine ⟨one_le, fun p3 np3 => ?_⟩
      have bb4 := bb3.new (o := .tup [.ref p2]) np3
      have e3 : upd H3 p3 (.tup [.ref p2]) p3 = some (.tup [.ref p2]) := upd_same
      have e2 := newtup (o := .tup [.ref p2]) np3 _ _ e2
      generalize upd H3 p3 (.tup [.ref p2]) = H4 at *
      refine ⟨_, rfl, three_le, fun p4 np4 => ?_⟩
      refine q _ _ _ (.lst true [(noneN, nnN)] c) (bb4.new np4) ⟨p4, p3, _, rfl, upd_same, newtup np4 _ _ e3, ?_⟩ .exp
      exact .cons ⟨p2, rfl, newtup np4 _ _ e2⟩ .nil
    refine ⟨_, rfl, rfl, _, rfl, ite2 (fun _ => ?_) (fun _ => ?_)⟩
    · refine ⟨one_le, fun p0 n0 => ?_⟩
      rw [pS', hS', qS']
      have bb := bb.new (o := .tup [.str (S [112])]) n0
      have e0 := (upd_same : upd H1 p0 (.tup [.str (S [112])]) p0 = _)
      generalize upd H1 p0 (.tup [.str (S [112])]) = G2 at *
      refine ⟨two_le, fun e1 m1 => ?_⟩
      have bb := bb.new (o := .tup [.str "number", .int 1]) m1
      have v1 := (tv_num (n := 1) : TV (upd G2 e1 (.tup [.str "number", .int 1])) (.num 1) (.ref e1))
      have e0 := newtup (o := .tup [.str "number", .int 1]) m1 _ _ e0
      generalize upd G2 e1 (.tup [.str "number", .int 1]) = G3 at *
      refine ⟨three_le, fun t1 k1 => ?_⟩
      have bb := bb.new (o := .tup [.str "set", .str (S [112]), .ref e1]) k1
      have x1 := (tv_set (x := [112]) k1 v1 : TV (upd G3 t1 (.tup [.str "set", .str (S [112]), .ref e1])) (.set [112] (.num 1)) (.ref t1))
      have v1 := TV.imp (newtup (o := .tup [.str "set", .str (S [112]), .ref e1]) k1) _ _ v1
      have e0 := newtup (o := .tup [.str "set", .str (S [112]), .ref e1]) k1 _ _ e0
      generalize upd G3 t1 (.tup [.str "set", .str (S [112]), .ref e1]) = G4 at *
      refine ⟨Nat.zero_le _, fun e2 m2 => ?_⟩
      have bb := bb.new (o := .tup []) m2
      have y2 := (upd_same : upd G4 e2 (.tup []) e2 = _)
      have v1 := TV.imp (newtup (o := .tup []) m2) _ _ v1
      have x1 := TV.imp (newtup (o := .tup []) m2) _ _ x1
      have e0 := newtup (o := .tup []) m2 _ _ e0
      generalize upd G4 e2 (.tup []) = G5 at *
      refine ⟨three_le, fun t2 k2 => ?_⟩
      have bb := bb.new (o := .tup [.str "call", .str (S [112]), .ref e2]) k2
      have x2 := (tv_call (x := [112]) (as := []) k2 y2 tvs_nil (Nat.zero_le _) : TV (upd G5 t2 (.tup [.str "call", .str (S [112]), .ref e2])) (.call [112] []) (.ref t2))
      have v1 := TV.imp (newtup (o := .tup [.str "call", .str (S [112]), .ref e2]) k2) _ _ v1
      have x1 := TV.imp (newtup (o := .tup [.str "call", .str (S [112]), .ref e2]) k2) _ _ x1
      have e0 := newtup (o := .tup [.str "call", .str (S [112]), .ref e2]) k2 _ _ e0
      have y2 := newtup (o := .tup [.str "call", .str (S [112]), .ref e2]) k2 _ _ y2
      generalize upd G5 t2 (.tup [.str "call", .str (S [112]), .ref e2]) = G6 at *
      refine ⟨two_le, fun e3 m3 => ?_⟩
      have bb := bb.new (o := .tup [.str "name", .str (S [112])]) m3
      have v3 := (tv_name : TV (upd G6 e3 (.tup [.str "name", .str (S [112])])) (.name [112]) (.ref e3))
      have v1 := TV.imp (newtup (o := .tup [.str "name", .str (S [112])]) m3) _ _ v1
      have x1 := TV.imp (newtup (o := .tup [.str "name", .str (S [112])]) m3) _ _ x1
      have x2 := TV.imp (newtup (o := .tup [.str "name", .str (S [112])]) m3) _ _ x2
      have e0 := newtup (o := .tup [.str "name", .str (S [112])]) m3 _ _ e0
      have y2 := newtup (o := .tup [.str "name", .str (S [112])]) m3 _ _ y2
      generalize upd G6 e3 (.tup [.str "name", .str (S [112])]) = G7 at *
      refine ⟨two_le, fun e4 m4 => ?_⟩
      have bb := bb.new (o := .tup [.str "name", .str (S [113])]) m4
      have v4 := (tv_name : TV (upd G7 e4 (.tup [.str "name", .str (S [113])])) (.name [113]) (.ref e4))
      have v1 := TV.imp (newtup (o := .tup [.str "name", .str (S [113])]) m4) _ _ v1
      have x1 := TV.imp (newtup (o := .tup [.str "name", .str (S [113])]) m4) _ _ x1
      have x2 := TV.imp (newtup (o := .tup [.str "name", .str (S [113])]) m4) _ _ x2
      have v3 := TV.imp (newtup (o := .tup [.str "name", .str (S [113])]) m4) _ _ v3
      have e0 := newtup (o := .tup [.str "name", .str (S [113])]) m4 _ _ e0
      have y2 := newtup (o := .tup [.str "name", .str (S [113])]) m4 _ _ y2
      generalize upd G7 e4 (.tup [.str "name", .str (S [113])]) = G8 at *
      refine ⟨three_le, fun t3 k3 => ?_⟩
      have bb := bb.new (o := .tup [.str "+", .ref e3, .ref e4]) k3
      have x3 := (tv_op k3 v3 v4 : TV (upd G8 t3 (.tup [.str "+", .ref e3, .ref e4])) (.op 43 (.name [112]) (.name [113])) (.ref t3))
      have v1 := TV.imp (newtup (o := .tup [.str "+", .ref e3, .ref e4]) k3) _ _ v1
      have x1 := TV.imp (newtup (o := .tup [.str "+", .ref e3, .ref e4]) k3) _ _ x1
      have x2 := TV.imp (newtup (o := .tup [.str "+", .ref e3, .ref e4]) k3) _ _ x2
      have v3 := TV.imp (newtup (o := .tup [.str "+", .ref e3, .ref e4]) k3) _ _ v3
      have v4 := TV.imp (newtup (o := .tup [.str "+", .ref e3, .ref e4]) k3) _ _ v4
      have e0 := newtup (o := .tup [.str "+", .ref e3, .ref e4]) k3 _ _ e0
      have y2 := newtup (o := .tup [.str "+", .ref e3, .ref e4]) k3 _ _ y2
      generalize upd G8 t3 (.tup [.str "+", .ref e3, .ref e4]) = G9 at *
      refine ⟨three_le, fun L nL => ?_⟩
      have bbL := bb.new (o := .lst [.ref t1, .ref t2, .ref t3]) nL
      have Lb : L ≠ b := bb.nb nL
      refine ⟨_, rfl, b, d, ds, n + 1, 3, rfl, bbL.box, by decide, fun r2 h2 h3 => ?_⟩
      have eL : upd (upd G9 L (.lst [.ref t1, .ref t2, .ref t3])) b (.lst [.ref d, .int ((n + 1 + 1 : Nat) : Int)]) L = some (.lst [.ref t1, .ref t2, .ref t3]) := by rw [upd_ne Lb]; exact upd_same
      have all : TVs (upd (upd G9 L (.lst [.ref t1, .ref t2, .ref t3])) b (.lst [.ref d, .int ((n + 1 + 1 : Nat) : Int)])) [.set [112] (.num 1), .call [112] [], .op 43 (.name [112]) (.name [113])] [.ref t1, .ref t2, .ref t3] := TVs.imp (kb bbL.box) _ _ (TVs.imp (newtup nL) _ _ (TVs.three x1 x2 x3))
      have e0 := kb (n' := n + 1 + 1) bbL.box _ _ (newtup (o := .lst [.ref t1, .ref t2, .ref t3]) nL _ _ e0)
      have bb := bbL.draw
      generalize upd (upd G9 L (.lst [.ref t1, .ref t2, .ref t3])) b (.lst [.ref d, .int ((n + 1 + 1 : Nat) : Int)]) = G at *
      obtain ⟨j, rfl, hj⟩ := idx (m := 3) h2 h3
      obtain ⟨v, hv⟩ : ∃ v, ([.ref t1, .ref t2, .ref t3] : List V)[j]? = some v := ⟨_, List.getElem?_eq_getElem (show j < 3 from hj)⟩
      obtain ⟨t, ht, tv⟩ := TVs.get all hv
      have nmP : nmB [112] = true ∧ nmB [113] = true := by decide +kernel
      have dt : Dr 3 t := by
        have := List.mem_of_getElem? ht
        simp only [List.mem_cons, List.not_mem_nil, or_false] at this
        rcases this with rfl | rfl | rfl
        · exact (Dr.set (d := 0) nmP.1 (by decide) (.num (by decide))).more (by decide)
        · exact (Dr.call (d := 0) nmP.1 (by decide) (by decide) (fun x h => by cases h)).more (by decide)
        · exact (Dr.op (d := 0) (by decide) (.name nmP.1 (by decide)) (.name nmP.2 (by decide))).more (by decide)
      refine ⟨L, _, _, v, rfl, rfl, SqL.of eL, atI_nat hv, (show 4 ≤ sizeLine by decide), fun p np => ?_⟩
      exact q _ _ _ (.fn hN [[112]] t) (bb.new np) ⟨p, p0, v, rfl, upd_same, newtup np _ _ e0, TV.imp (newtup np) _ _ tv⟩ (.fn dt)
    · refine ⟨_, rfl, _, rfl, b, d, ds, n + 1, c, rfl, bb.box, hc, fun H2 n2 u1 t1 b2 tv1 d1 => ⟨two_le, fun p1 np1 => ?_⟩⟩
      exact q _ _ _ (.dw false t1) ((bb.trans b2).new np1) ⟨p1, u1, rfl, upd_same, TV.imp (newtup np1) _ _ tv1⟩ (.dw d1)
end
end K3

set_option maxRecDepth 100000
set_option maxHeartbeats 16000000
/-! drawn modules: taken over from k05 -/
namespace K3
open PySem hiding Tok code
open PySem.Spec PyProof.Rows GD K1
open L2 hiding rest
open K2 hiding Sp P
theorem DM.len {c : NM} {os : List NM} {ls : List Ln} (h : DM c os ls) (hl : os.length ≤ 4) : 5 ≤ ls.length ∧ ls.length ≤ 11 := by
  obtain ⟨il, own, rfl, _, h2, t1, t2, t3, t4, t5, dos, hos, _, hd, hh, ho⟩ := h.ex
  have d1 : dos.length ≤ 1 := by
    rcases hd with rfl | ⟨_, _, rfl⟩ <;> simp
  have d2 : hos.length ≤ 1 := by
    rcases hh with rfl | ⟨_, _, rfl⟩ <;> simp
  have ol : own.length = 5 + dos.length + hos.length := by
    have b5 : (ownB c t1 t2 t3 t4 t5).length = 5 := rfl
    rcases ho with rfl | rfl
    · rw [List.length_append, List.length_append, b5]
    · rw [List.length_append, List.length_drop, List.length_take, List.length_append, List.length_append, b5]; omega
  rw [List.length_append, List.length_map]
  omega
def mset (ms : Mods) (n : NM) (ls : List Ln) : Mods := ms.map fun m => if m.1 = n then (m.1, ls) else m
theorem mset_all {ms : Mods} {n : NM} {ls : List Ln} {P : NM × List Ln → Prop} (h1 : ∀ m ∈ ms, m.1 ≠ n → P m) (h2 : P (n, ls)) : ∀ m ∈ mset ms n ls, P m := fun m hm => by
  obtain ⟨m0, h0, rfl⟩ := List.mem_map.mp hm
  by_cases e : m0.1 = n
  · rw [if_pos e, e]; exact h2
  · rw [if_neg e]; exact h1 m0 h0 e
theorem mset_fst (ms : Mods) (n : NM) (ls : List Ln) : (mset ms n ls).map (·.1) = ms.map (·.1) := by
  unfold mset
  rw [List.map_map]
  refine List.map_congr_left fun m _ => ?_
  show (if m.1 = n then (m.1, ls) else m).1 = m.1
  split <;> rfl
theorem KVs.set {H : Hp} {kvs : List (Key × V)} {ms : Mods} (h : KVs H kvs ms) {n : NM} {v : V} {ls : List Ln} (hv : MV H v ls) (hn : n ∈ ms.map (·.1)) : KVs H (putK kvs (.inr (S n)) v) (mset ms n ls) := by
  have hany : (kvs.any fun kv => decide (kv.1 = (.inr (S n) : Key))) = true := by
    rw [valV_any]
    rcases h.val n with ⟨h1, _⟩ | ⟨_, v, _, h2, _⟩
    · obtain ⟨m, hm, e⟩ := List.mem_map.mp hn
      unfold mget at h1
      rw [Option.map_eq_none_iff, List.find?_eq_none] at h1
      exact absurd (decide_eq_true e) (h1 m hm)
    · rw [h2]; rfl
  unfold putK
  rw [if_pos hany]
  clear hany hn
  unfold mset
  induction h with
  | nil => exact .nil
  | @cons kv m _ _ r _ ih =>
    refine .cons ?_ ih
    by_cases e : m.1 = n
    · have ek : kv.1 = (.inr (S n) : Key) := by rw [r.1, e]
      dsimp only
      rw [if_pos ek, if_pos e]
      exact ⟨r.1, hv⟩
    · have ek : ¬ kv.1 = (.inr (S n) : Key) := by rw [r.1]; intro z; injection z with z; exact e (S_inj z)
      dsimp only
      rw [if_neg ek, if_neg e]
      exact r
theorem KVs.got {H : Hp} {kvs : List (Key × V)} {ms : Mods} (h : KVs H kvs ms) {n : NM} {ls : List Ln} (e : mget ms n = some ls) : ∃ q vs, valV kvs (.inr (S n)) = some (.ref q) ∧ H q = some (.tup vs) ∧ LVs H vs ls := by
  rcases h.val n with ⟨h1, _⟩ | ⟨ls', v, h1, h2, q, vs, rfl, h3, h4⟩
  · rw [e] at h1; cases h1
  · rw [e] at h1; cases h1; exact ⟨q, vs, h2, h3, h4⟩
structure Fx (b d dm : Addr) (ds : List Int) (H H' : Hp) (n : Nat) : Prop where
  k : ∀ q o, q ≠ b → q ≠ dm → H q = some o → H' q = some o
  box : Box H' b d ds n
  free : ∀ q, H' q = none → H q = none
theorem Fx.bs {b d dm : Addr} {ds : List Int} {H H1 H2 : Hp} {n n2 : Nat} (h : Fx b d dm ds H H1 n) (y : Bs b d ds H1 H2 n2) : Fx b d dm ds H H2 n2 := ⟨fun q o nb nd e => y.bx _ _ nb (h.k _ _ nb nd e), y.box, fun q z => h.free q (y.free q z)⟩
theorem Fx.wdm {b d dm : Addr} {ds : List Int} {H H1 : Hp} {n : Nat} {kvs kvs' : List (Key × V)} (h : Fx b d dm ds H H1 n) (e : H1 dm = some (.dK kvs)) : Fx b d dm ds H (upd H1 dm (.dK kvs')) n := by
  have n1 : b ≠ dm := ne_of h.box.1 e (by intro z; cases z)
  have n2 : d ≠ dm := ne_of h.box.2.1 e (by intro z; cases z)
  exact ⟨fun q o nb nd hq => by rw [upd_ne nd]; exact h.k _ _ nb nd hq, ⟨by rw [upd_ne n1]; exact h.box.1, by rw [upd_ne n2]; exact h.box.2.1, h.box.2.2⟩, fun q z => h.free q (by
    by_cases e2 : q = dm
    · rw [e2, upd_same] at z; cases z
    · rw [upd_ne e2] at z; exact z)⟩
theorem mget_in {ms : Mods} {n : NM} (h : n ∈ ms.map (·.1)) : ∃ ls, mget ms n = some ls ∧ (n, ls) ∈ ms := by
  cases e : mget ms n with
  | none =>
    unfold mget at e
    rw [Option.map_eq_none_iff, List.find?_eq_none] at e
    obtain ⟨m, hm, e2⟩ := List.mem_map.mp h
    exact absurd (decide_eq_true e2) (e m hm)
  | some ls => exact ⟨ls, rfl, mget_mem e⟩
theorem MD.set {H : Hp} {dm : Addr} {ms : Mods} {kvs : List (Key × V)} (h : H dm = some (.dK kvs)) (k : KVs H kvs ms) {n : NM} {v : V} {ls : List Ln} (hv : MV H v ls) (hn : n ∈ ms.map (·.1)) : MD (upd H dm (.dK (putK kvs (.inr (S n)) v))) dm (mset ms n ls) :=
  ⟨_, upd_same, (k.set hv hn).imp fun q xs e => by rw [upd_ne (ne_of e h (by intro z; cases z))]; exact e⟩
theorem smO : ∀ c ∈ mods4, smN c ∧ ∀ x ∈ ownN c, smN x := by
  have : ∀ c ∈ mods4, (c.length ≤ 6 ∧ ∀ z ∈ c, z < 1000) ∧ ∀ x ∈ ownN c, x.length ≤ 6 ∧ ∀ z ∈ x, z < 1000 := by decide +kernel
  exact this
theorem smPar : smN [112] ∧ smN [113] := by
  have : ([112].length ≤ 6 ∧ ∀ z ∈ [112], z < 1000) ∧ ([113].length ≤ 6 ∧ ∀ z ∈ [113], z < 1000) := by decide +kernel
  exact this
theorem apart : ∀ m ∈ mods4, ∀ t ∈ mods4, t ≠ m → ∀ o ∈ ownN t, o ∉ ownN m ∧ 122 :: o ∉ ownN m := by decide +kernel
/-- one line of a drawn module without exports -/
def LineOk (c : NM) (os : List NM) : Ln → Prop
  | .lst w ps t => w = false ∧ ps.length ≤ 3 ∧ t ∈ os ∧ t ≠ c ∧ ∀ p ∈ ps, p.1 ∈ ownN t ∧ (p.2 = p.1 ∨ p.2 = 122 :: p.1)
  | .lt k x t => x ∈ ownN c ∧ Dr 3 t
  | .fn f ps t => f ∈ ownN c ∧ ps.length ≤ 2 ∧ (∀ p ∈ ps, smN p) ∧ Dr 3 t
  | .dw _ t => Dr 3 t
theorem DM.line {c : NM} {os : List NM} {ls : List Ln} (h : DM c os ls) : ∀ l ∈ ls, LineOk c os l := by
  obtain ⟨il, own, rfl, hi, _, t1, t2, t3, t4, t5, dos, hos, hd, h1, h2, ho⟩ := h.ex
  have key : ∀ l ∈ ownB c t1 t2 t3 t4 t5 ++ dos ++ hos, LineOk c os l := fun l hl => by
    rcases List.mem_append.mp hl with hl | hl
    · rcases List.mem_append.mp hl with hl | hl
      · simp only [ownB, List.mem_cons, List.not_mem_nil, or_false] at hl
        rcases hl with rfl | rfl | rfl | rfl | rfl
        · exact ⟨by simp [ownN], hd _ (by simp)⟩
        · exact ⟨by simp [ownN], by simp, fun p hp => by rw [List.mem_singleton.mp hp]; exact smPar.1, hd _ (by simp)⟩
        · exact ⟨by simp [ownN], hd _ (by simp)⟩
        · exact ⟨by simp [ownN], hd _ (by simp)⟩
        · exact ⟨by simp [ownN], by simp, fun p hp => by
            simp only [List.mem_cons, List.not_mem_nil, or_false] at hp
            rcases hp with rfl | rfl
            · exact smPar.1
            · exact smPar.2, hd _ (by simp)⟩
      · rcases h1 with rfl | ⟨t, ht, rfl⟩
        · cases hl
        · rw [List.mem_singleton.mp hl]; exact ht
    · rcases h2 with rfl | ⟨t, ht, rfl⟩
      · cases hl
      · rw [List.mem_singleton.mp hl]; exact ht
  intro l hl
  rcases List.mem_append.mp hl with hl | hl
  · obtain ⟨x, hx, rfl⟩ := List.mem_map.mp hl
    obtain ⟨g1, g2, g3, g4, g5⟩ := hi.mem x hx
    exact ⟨rfl, g4, g1, g2, g5⟩
  · rcases ho with rfl | rfl
    · exact key l hl
    · rcases List.mem_append.mp hl with hl | hl
      · exact key l (List.mem_of_mem_drop hl)
      · exact key l (List.mem_of_mem_take hl)
theorem lines_some {ms : Mods} {m : NM} {l : Ln} (h : l ∈ linesOf ms m) : ∃ ls, mget ms m = some ls ∧ l ∈ ls := by
  unfold linesOf at h
  cases e : mget ms m with
  | none => rw [e] at h; cases h
  | some ls => rw [e] at h; exact ⟨ls, rfl, h⟩
theorem findOwn_cons (n : NM) (l : Ln) (r : List Ln) : findOwn n (l :: r) = if lname l = some n then some l else findOwn n r := by
  unfold findOwn
  rw [List.find?_cons]
  by_cases h : lname l = some n
  · rw [decide_eq_true h, if_pos h]
  · rw [decide_eq_false h, if_neg h]
/-- lines without exports -/
theorem xls_pre {n : NM} : ∀ {pre : List Ln} (f : XF), (∀ l ∈ pre, ∀ ps t, l ≠ Ln.lst true ps t) → pre.foldl xln f n = if (findOwn n pre).isSome = true then some none else f n
  | [], f, _ => rfl
  | l :: r, f, h => by
    rw [List.foldl_cons, xls_pre (xln f l) fun x hx => h x (List.mem_cons_of_mem _ hx), findOwn_cons]
    have hl : xln f l n = if lname l = some n then some none else f n := by
      cases l with
      | lst v ps t =>
        cases v with
        | false => rfl
        | true => exact absurd rfl (h _ (List.mem_cons_self ..) ps t)
      | lt k x t =>
        show (if n = x then some none else f n) = if some x = some n then some none else f n
        by_cases e : n = x
        · rw [if_pos e, if_pos (by rw [e])]
        · rw [if_neg e, if_neg (fun z => e (by injection z with z; exact z.symm))]
      | fn x ps t =>
        show (if n = x then some none else f n) = if some x = some n then some none else f n
        by_cases e : n = x
        · rw [if_pos e, if_pos (by rw [e])]
        · rw [if_neg e, if_neg (fun z => e (by injection z with z; exact z.symm))]
      | dw _ _ => rfl
    rw [hl]
    by_cases e : lname l = some n
    · rw [if_pos e, if_pos e]
      split <;> rfl
    · rw [if_neg e, if_neg e]
theorem findOwn_app (n : NM) : ∀ (a b : List Ln), findOwn n (a ++ b) = (findOwn n a).or (findOwn n b) := fun a b => by
  unfold findOwn
  exact List.find?_append
theorem findList_app (w : Bool) (n : NM) : ∀ (a b : List Ln), findList w n (a ++ b) = (findList w n a).or (findList w n b)
  | [], b => by simp [findList]
  | l :: a, b => by rw [List.cons_append, findList, findList_app w n a b, findList, Option.or_assoc]
theorem findList_no {n : NM} : ∀ {pre : List Ln}, (∀ l ∈ pre, ∀ ps t, l ≠ Ln.lst true ps t) → findList true n pre = none
  | [], _ => rfl
  | l :: r, h => by
    rw [findList, findList_no fun x hx => h x (List.mem_cons_of_mem _ hx)]
    cases l with
    | lst v ps t =>
      cases v with
      | false => rfl
      | true => exact absurd rfl (h _ (List.mem_cons_self ..) ps t)
    | lt _ _ _ => rfl
    | fn _ _ _ => rfl
    | dw _ _ => rfl
theorem tg_pre : ∀ {pre : List Ln}, (∀ l ∈ pre, ∀ ps t, l ≠ Ln.lst true ps t) → pre.flatMap tgtL = []
  | [], _ => rfl
  | l :: r, h => by
    rw [List.flatMap_cons, tg_pre fun x hx => h x (List.mem_cons_of_mem _ hx), List.append_nil]
    cases l with
    | lst v ps t =>
      cases v with
      | false => rfl
      | true => exact absurd rfl (h _ (List.mem_cons_self ..) ps t)
    | lt _ _ _ => rfl
    | fn _ _ _ => rfl
    | dw _ _ => rfl
theorem tgl_le : ∀ {ms : Mods}, (∀ m ∈ ms, (m.2.flatMap tgtL).length ≤ 2) → (tgt ms).length ≤ 2 * ms.length
  | [], _ => Nat.zero_le _
  | m :: ms, h => by
    have ih := tgl_le (ms := ms) fun x hx => h x (List.mem_cons_of_mem _ hx)
    have := h m (List.mem_cons_self ..)
    unfold tgt at ih ⊢
    rw [List.flatMap_cons, List.length_append, List.length_cons]
    omega
/-- where a walk stays -/
theorem visL_in {ms : Mods} {G : NM → Prop} {f : NM → DS → DR} (hf : ∀ m s, G m → (∀ x ∈ s.2, G x) → match f m s with | .inl x => G x | .inr s' => ∀ x ∈ s'.2, G x) : ∀ {ts : List NM} {s : DS}, (∀ t ∈ ts, G t) → (∀ x ∈ s.2, G x) → match visL f ts s with | .inl x => G x | .inr s' => ∀ x ∈ s'.2, G x
  | [], s, _, h => h
  | t :: r, s, ht, h => by
    have := hf t s (ht t (List.mem_cons_self ..)) h
    rw [visL]
    cases e : f t s with
    | inl x => rw [e] at this; exact this
    | inr s1 => rw [e] at this; exact visL_in (ms := ms) hf (fun x hx => ht x (List.mem_cons_of_mem _ hx)) this
theorem vis_in {ms : Mods} {G : NM → Prop} (hg : ∀ m ls, mget ms m = some ls → ∀ t ∈ tgs ls, G t) : ∀ k m s, G m → (∀ x ∈ s.2, G x) → match vis ms k m s with | .inl x => G x | .inr s' => ∀ x ∈ s'.2, G x
  | 0, m, s, _, h => h
  | k + 1, m, s, hm, h => by
    rw [vis]
    by_cases e : m ∈ s.1
    · rw [if_pos e]; exact h
    · rw [if_neg e]
      cases e2 : mget ms m with
      | none => exact hm
      | some ls =>
        have := visL_in (ms := ms) (f := vis ms k) (vis_in hg k) (ts := tgs ls) (s := (s.1 ++ [m], s.2)) (hg m ls e2) h
        dsimp only
        cases e3 : visL (vis ms k) (tgs ls) (s.1 ++ [m], s.2) with
        | inl x => rw [e3] at this; exact this
        | inr s1 =>
          rw [e3] at this
          intro x hx
          rcases List.mem_append.mp hx with hx | hx
          · exact this x hx
          · rw [List.mem_singleton.mp hx]; exact hm
theorem MD.bs {b d dm : Addr} {ds : List Int} {H H' : Hp} {n n' : Nat} {ms : Mods} (h : MD H dm ms) (y : Bs b d ds H H' n') (x : Box H b d ds n) (nb : dm ≠ b) : MD H' dm ms := by
  obtain ⟨kvs, e, k⟩ := h
  exact ⟨kvs, y.bx _ _ nb e, k.imp (Bs.tup y x)⟩
theorem ResV.same {H H' : Hp} (s : Same H H') {v : V} : ∀ {r : DR}, ResV H v r → ResV H' v r
  | .inl _, ⟨q, e, h⟩ => ⟨q, e, s _ _ h⟩
  | .inr _, ⟨q, a, e, h, k⟩ => ⟨q, a, e, s _ _ h, s _ _ k⟩
def rLenK (K : PySem.W.Frag) : List V → Hp → VK → Prop := fun xs H Q => ∃ p ys, xs = [.ref p] ∧ (SqL K H p ys ∨ SqT K H p ys) ∧ Q (.int ys.length) H
theorem call_lenK {X : Cx} : CallR X (.builtin "len") (rLenK X.K) := call_len_seq
theorem cutTn (xs : List V) (n : Nat) : cutV xs none (some (n : Int)) = xs.take n := by
  unfold cutV
  have e1 : HT.sIx xs.length 0 none = 0 := rfl
  have e2 : HT.sIx xs.length xs.length (some (n : Int)) = min n xs.length := HT.sIx_nat _ _ n
  rw [e1, e2, List.drop_zero, Nat.sub_zero]
  exact (List.take_eq_take_min).symm
end K3

set_option maxRecDepth 100000
set_option maxHeartbeats 16000000
/-! modules with at most one wrong line each -/
namespace K3
open PySem hiding Tok code
open PySem.Spec PyProof.Rows GD K1
open L2 hiding rest
open K2 hiding Sp P
structure W6 (c : NM) (os : List NM) (ls : List Ln) : Prop where
  ex : ∃ pre w post, ls = pre ++ w ++ post ∧ DM c os (pre ++ post) ∧ (w = [] ∨ ∃ l, w = [l] ∧ WLn c l)
theorem W6.of {c : NM} {os : List NM} {ls : List Ln} (h : DM c os ls) : W6 c os ls := ⟨ls, [], [], by simp, by simpa using h, .inl rfl⟩
theorem W6.put {c : NM} {os : List NM} {ls : List Ln} (h : DM c os ls) (k : Nat) {l : Ln} (hl : WLn c l) : W6 c os (ls.take k ++ l :: ls.drop k) :=
  ⟨ls.take k, [l], ls.drop k, by simp, by rw [List.take_append_drop]; exact h, .inr ⟨l, rfl, hl⟩⟩
theorem W6.line {c : NM} {os : List NM} {ls : List Ln} (h : W6 c os ls) : ∃ l0 : Option Ln, (∀ l, l0 = some l → WLn c l) ∧ ∀ l ∈ ls, LineOk c os l ∨ l0 = some l := by
  obtain ⟨pre, w, post, rfl, hd, hw⟩ := h.ex
  have hl := hd.line
  rcases hw with rfl | ⟨l0, rfl, hw⟩
  · refine ⟨none, (fun l e => (by cases e)), fun l h => .inl (hl l ?_)⟩
    rw [List.append_nil] at h
    exact h
  · refine ⟨some l0, (fun l e => (by cases e; exact hw)), fun l h => ?_⟩
    rcases List.mem_append.mp h with h | h
    · rcases List.mem_append.mp h with h | h
      · exact .inl (hl l (List.mem_append.mpr (.inl h)))
      · exact .inr (by rw [List.mem_singleton.mp h])
    · exact .inl (hl l (List.mem_append.mpr (.inr h)))
theorem W6.or {c : NM} {os : List NM} {ls : List Ln} (h : W6 c os ls) : ∀ l ∈ ls, LineOk c os l ∨ WLn c l := fun l hl => by
  obtain ⟨l0, h1, h2⟩ := h.line
  rcases h2 l hl with h | h
  · exact .inl h
  · exact .inr (h1 l h)
theorem W6.len {c : NM} {os : List NM} {ls : List Ln} (h : W6 c os ls) (hl : os.length ≤ 4) : 5 ≤ ls.length ∧ ls.length ≤ 12 := by
  obtain ⟨pre, w, post, rfl, hd, hw⟩ := h.ex
  have := hd.len hl
  have w1 : w.length ≤ 1 := by rcases hw with rfl | ⟨_, rfl, _⟩ <;> simp
  rw [List.length_append] at this
  rw [List.length_append, List.length_append]
  omega
theorem W6.few {c : NM} {os : List NM} {ls : List Ln} (h : W6 c os ls) (hl : os.length ≤ 4) : few ls := by
  refine ⟨by have := h.len hl; omega, fun w ps m hm => ?_⟩
  rcases h.or _ hm with h | h
  · exact h.2.1
  · cases h <;> exact Nat.le_of_ble_eq_true rfl
theorem sepN : ∀ m ∈ mods4, (nnN ∉ ownN m ∧ mmN ∉ ownN m ∧ hN ∉ ownN m) ∧ ∀ o ∈ ownN m, nnN ≠ 122 :: o ∧ hN ≠ 122 :: o := by decide +kernel
theorem sepM : hN ≠ mmN ∧ hN ≠ nnN := by decide +kernel
theorem smW : smN nnN ∧ smN mmN ∧ smN hN ∧ smN noneN := by
  have : (nnN.length ≤ 6 ∧ ∀ z ∈ nnN, z < 1000) ∧ (mmN.length ≤ 6 ∧ ∀ z ∈ mmN, z < 1000) ∧ (hN.length ≤ 6 ∧ ∀ z ∈ hN, z < 1000) ∧ (noneN.length ≤ 6 ∧ ∀ z ∈ noneN, z < 1000) := by decide +kernel
  exact this
theorem smX : ∀ c ∈ mods4, smN (120 :: c) := by
  have : ∀ c ∈ mods4, (120 :: c).length ≤ 6 ∧ ∀ z ∈ 120 :: c, z < 1000 := by decide +kernel
  exact this
theorem LineOk.own {c : NM} {os : List NM} {l : Ln} (h : LineOk c os l) {n : NM} (e : lname l = some n) : n ∈ ownN c := by
  cases l with
  | lst _ _ _ => cases e
  | lt k x t => cases e; exact h.1
  | fn f ps t => cases e; exact h.1
  | dw _ _ => cases e
structure Good6 (ms : Mods) (os : List NM) : Prop where
  fst : ms.map (·.1) = os
  sub : ∀ o ∈ os, o ∈ mods4
  len : os.length ≤ 4
  x : ∀ m ∈ ms, W6 m.1 os m.2
theorem Good6.get {ms : Mods} {os : List NM} (g : Good6 ms os) {m : NM} {ls : List Ln} (h : mget ms m = some ls) : W6 m os ls ∧ m ∈ os := by
  have hm := mget_mem h
  exact ⟨g.x _ hm, by rw [← g.fst]; exact List.mem_map.mpr ⟨_, hm, rfl⟩⟩
theorem Good6.ap {ms : Mods} {os : List NM} (g : Good6 ms os) {m n : NM} (h : isOwn ms (m, n) = true) : lstd false ms (m, n) = none := by
  cases e : lstd false ms (m, n) with
  | none => rfl
  | some q =>
    exfalso
    obtain ⟨l, el⟩ := Option.isSome_iff_exists.mp h
    obtain ⟨d1, d2⟩ := findOwn_mem el
    obtain ⟨ls, e1, hl⟩ := lines_some d1
    obtain ⟨gx, gm⟩ := g.get e1
    have hm := g.sub _ gm
    obtain ⟨ps, p, i1, i2, i3, _⟩ := findList_mem e
    obtain ⟨ls', e2, hl'⟩ := lines_some i1
    have hl2 : Ln.lst false ps q.1 ∈ ls := by rw [e1] at e2; cases e2; exact hl'
    have i3 : p.2 = n := i3
    obtain ⟨s1, s2⟩ := sepN m hm
    obtain ⟨l0, hw, hL⟩ := gx.line
    rcases hL _ hl2 with hi | hi
    · obtain ⟨_, _, ht, hne, hp⟩ := hi
      obtain ⟨o1, o2⟩ := hp p i2
      have ht4 := g.sub _ ht
      have ap := apart m hm _ ht4 hne _ o1
      obtain ⟨s3, s4⟩ := sepN _ ht4
      have hnot : n ∉ ownN m ∧ n ≠ nnN ∧ n ≠ hN := by
        rw [← i3]
        rcases o2 with e | e
        · rw [e]; exact ⟨ap.1, fun z => s3.1 (by rw [← z]; exact o1), fun z => s3.2.2 (by rw [← z]; exact o1)⟩
        · rw [e]; exact ⟨ap.2, fun z => (s4 _ o1).1 z.symm, fun z => (s4 _ o1).2 z.symm⟩
      rcases gx.or _ hl with h | h
      · exact hnot.1 (h.own d2)
      · cases h with
        | lt _ => cases d2; exact hnot.2.1 rfl
        | dw _ => cases d2
        | imp => cases d2
        | exp => cases d2
        | fn _ => cases d2; exact hnot.2.2 rfl
    · have hw0 := hw _ hi
      have hn : n = mmN ∨ n = nnN := by
        rw [← i3]
        generalize hx : Ln.lst false ps q.1 = x at hw0
        cases hw0 with
        | imp =>
          cases hx
          simp only [List.mem_cons, List.not_mem_nil, or_false] at i2
          rcases i2 with rfl | rfl
          · exact .inl rfl
          · exact .inr rfl
        | lt _ => cases hx
        | dw _ => cases hx
        | exp => cases hx
        | fn _ => cases hx
      rcases hL _ hl with h | h
      · have := h.own d2
        rcases hn with rfl | rfl
        · exact s1.2.1 this
        · exact s1.1 this
      · rw [hi] at h
        cases h
        cases d2
theorem Good6.im {ms : Mods} {os : List NM} (g : Good6 ms os) {m n : NM} {q : Pl} (h : lstd false ms (m, n) = some q) : smP q := by
  obtain ⟨ps, p, h1, h2, h3, h4⟩ := findList_mem h
  obtain ⟨ls, e, hl⟩ := lines_some h1
  obtain ⟨gx, gm⟩ := g.get e
  have hm := g.sub _ gm
  rcases gx.or _ hl with h | h
  · obtain ⟨_, _, ht, hne, hp⟩ := h
    have ht4 := g.sub _ ht
    exact ⟨(smO _ ht4).1, by rw [h4]; exact (smO _ ht4).2 _ (hp p h2).1⟩
  · obtain ⟨q1, q2⟩ := q
    dsimp only at h h4
    generalize hx : Ln.lst false ps q1 = x at h
    cases h with
    | imp =>
      cases hx
      simp only [List.mem_cons, List.not_mem_nil, or_false] at h2
      subst h4
      rcases h2 with rfl | rfl
      · exact ⟨(smO _ hm).1, smX _ hm⟩
      · exact ⟨(smO _ hm).1, smW.2.2.2⟩
    | lt _ => cases hx
    | dw _ => cases hx
    | exp => cases hx
    | fn _ => cases hx
theorem Good6.tg {ms : Mods} {os : List NM} (g : Good6 ms os) : ∀ p ∈ tgt ms, smP p := fun p hp => by
  obtain ⟨m, hm, hp⟩ := List.mem_flatMap.mp hp
  obtain ⟨l, hl, hp⟩ := List.mem_flatMap.mp hp
  have hm4 := g.sub m.1 (by rw [← g.fst]; exact List.mem_map.mpr ⟨_, hm, rfl⟩)
  cases l with
  | lst w ps t =>
    cases w with
    | false => cases hp
    | true =>
      obtain ⟨x, hx, rfl⟩ := List.mem_map.mp hp
      rcases (g.x m hm).or _ hl with h | h
      · exact absurd h.1 (by decide)
      · cases h
        rw [List.mem_singleton.mp hx]
        exact ⟨(smO _ hm4).1, smW.2.2.2⟩
  | lt _ _ _ => cases hp
  | fn _ _ _ => cases hp
  | dw _ _ => cases hp
theorem WLn.dec {c : NM} {l : Ln} (h : WLn c l) : l = .lst true [(noneN, nnN)] c ∨ ∀ ps t, l ≠ Ln.lst true ps t := by
  cases h with
  | exp => exact .inl rfl
  | lt _ => exact .inr fun ps t e => by cases e
  | dw _ => exact .inr fun ps t e => by cases e
  | imp => exact .inr fun ps t e => by cases e
  | fn _ => exact .inr fun ps t e => by cases e
theorem LineOk.nex {c : NM} {os : List NM} {l : Ln} (h : LineOk c os l) : ∀ ps t, l ≠ Ln.lst true ps t := fun ps t e => by
  rw [e] at h
  exact absurd h.1 (by decide)
/-- no export, or just the wrong one -/
theorem W6.cut {c : NM} {os : List NM} {ls : List Ln} (h : W6 c os ls) : (∀ l ∈ ls, ∀ ps t, l ≠ Ln.lst true ps t) ∨ ∃ pre post, ls = pre ++ Ln.lst true [(noneN, nnN)] c :: post ∧ DM c os (pre ++ post) := by
  obtain ⟨pre, w, post, rfl, hd, hw⟩ := h.ex
  have hl := hd.line
  rcases hw with rfl | ⟨l0, rfl, hw⟩
  · refine .inl fun l h => (hl l ?_).nex
    rw [List.append_nil] at h
    exact h
  · rcases hw.dec with rfl | hn
    · exact .inr ⟨pre, post, by simp, hd⟩
    · refine .inl fun l h => ?_
      rcases List.mem_append.mp h with h | h
      · rcases List.mem_append.mp h with h | h
        · exact (hl l (List.mem_append.mpr (.inl h))).nex
        · rw [List.mem_singleton.mp h]; exact hn
      · exact (hl l (List.mem_append.mpr (.inr h))).nex
theorem W6.tgl {c : NM} {os : List NM} {ls : List Ln} (h : W6 c os ls) : (ls.flatMap tgtL).length ≤ 2 := by
  rcases h.cut with h | ⟨pre, post, rfl, hd⟩
  · rw [tg_pre h]; decide
  · have hl := hd.line
    rw [List.flatMap_append, List.flatMap_cons, tg_pre fun l h => (hl l (List.mem_append.mpr (.inl h))).nex, tg_pre fun l h => (hl l (List.mem_append.mpr (.inr h))).nex]
    simp [tgtL]
theorem Good6.mlen {ms : Mods} {os : List NM} (g : Good6 ms os) : ms.length ≤ 4 := by
  have := congrArg List.length g.fst
  rw [List.length_map] at this
  have := g.len
  omega
theorem Good6.tgl {ms : Mods} {os : List NM} (g : Good6 ms os) : (tgt ms).length ≤ 90 := by
  have := tgl_le fun m hm => (g.x m hm).tgl
  have := g.mlen
  omega
theorem W6.xls {c : NM} {os : List NM} {ls : List Ln} (h : W6 c os ls) (hc : c ∈ mods4) (n : NM) : xls ls n = if (findOwn n ls).isSome = true then some none else (findList true n ls).map some := by
  rcases h.cut with h | ⟨pre, post, rfl, hd⟩
  · unfold K3.xls
    rw [xls_pre _ h, findList_no h]
    rfl
  · have hl := hd.line
    have h1 : ∀ l ∈ pre, ∀ ps t, l ≠ Ln.lst true ps t := fun l h => (hl l (List.mem_append.mpr (.inl h))).nex
    have h2 : ∀ l ∈ post, ∀ ps t, l ≠ Ln.lst true ps t := fun l h => (hl l (List.mem_append.mpr (.inr h))).nex
    have no : ∀ ls', (∀ l ∈ ls', LineOk c os l) → findOwn nnN ls' = none := fun ls' ha => by
      cases h9 : findOwn nnN ls' with
      | none => rfl
      | some l =>
        obtain ⟨m1, m2⟩ := findOwn_mem h9
        exact absurd ((ha l m1).own m2) (sepN c hc).1.1
    unfold K3.xls
    rw [List.foldl_append, List.foldl_cons, xls_pre _ h2, findOwn_app, findOwn_cons, findList_app, findList_no h1, findList, findList_no h2, if_neg (show ¬ lname (Ln.lst true [(noneN, nnN)] c) = some n from fun z => by cases z)]
    have ex : xln (pre.foldl xln fun _ => none) (Ln.lst true [(noneN, nnN)] c) n = if n = nnN then some (some (c, noneN)) else (pre.foldl xln fun _ => none) n := rfl
    have el : listHere true n (Ln.lst true [(noneN, nnN)] c) = if nnN = n then some (c, noneN) else none := by
      rw [listHere, if_pos rfl, List.find?_cons]
      by_cases e : nnN = n
      · rw [decide_eq_true e, if_pos e]; rfl
      · rw [decide_eq_false e, if_neg e]; rfl
    rw [ex, el, xls_pre _ h1]
    by_cases e : n = nnN
    · subst e
      rw [no pre fun l h => hl l (List.mem_append.mpr (.inl h)), no post fun l h => hl l (List.mem_append.mpr (.inr h)), if_pos rfl, if_pos rfl]
      rfl
    · rw [if_neg e, if_neg (show ¬ nnN = n from fun z => e z.symm)]
      cases findOwn n pre <;> cases findOwn n post <;> rfl
theorem Good6.ex {ms : Mods} {os : List NM} (g : Good6 ms os) : ExOK ms := fun m ls h => by
  obtain ⟨gx, gm⟩ := g.get h
  exact ⟨gx.few g.len, gx.xls (g.sub _ gm)⟩
theorem Good6.lw {ms : Mods} {os : List NM} (g : Good6 ms os) (m : NM) : LwOK ms m := ⟨g.ex, fun x h => g.ap h⟩
theorem Good6.av {ms : Mods} {os : List NM} (g : Good6 ms os) (m : NM) : AvOK ms m := ⟨g.tgl, fun x q h => g.im h, g.tg⟩
theorem Good6.lc {ms : Mods} {os : List NM} (g : Good6 ms os) {m : NM} : ∀ l ∈ linesOf ms m, LineC l := fun l h => by
  obtain ⟨ls, e, hl⟩ := lines_some h
  obtain ⟨gx, gm⟩ := g.get e
  have hm := g.sub _ gm
  have dr : ∀ {t : Tr}, Dr 3 t → hgt t ≤ 12 := fun h => by have := h.hgt; omega
  rcases gx.or _ hl with h | h
  · cases l with
    | lst w ps t =>
      obtain ⟨_, _, ht, hne, hp⟩ := h
      exact fun p hp' => ⟨(smO _ (g.sub _ ht)).1, (smO _ (g.sub _ ht)).2 _ (hp p hp').1⟩
    | lt k x t => exact dr h.2
    | fn f ps t => exact dr h.2.2.2
    | dw k t => exact dr h
  · cases h with
    | lt h3 => exact dr h3
    | dw h3 => exact dr h3
    | fn h3 => exact dr h3
    | imp =>
      intro p hp
      simp only [List.mem_cons, List.not_mem_nil, or_false] at hp
      rcases hp with rfl | rfl
      · exact ⟨(smO _ hm).1, smX _ hm⟩
      · exact ⟨(smO _ hm).1, smW.2.2.2⟩
    | exp =>
      intro p hp
      rw [List.mem_singleton.mp hp]
      exact ⟨(smO _ hm).1, smW.2.2.2⟩
theorem Good6.dr {ms : Mods} {os : List NM} (g : Good6 ms os) {m : NM} {l : Ln} (h : l ∈ linesOf ms m) {t : Tr} (e : trOf l = some t) : Dr 3 t := by
  obtain ⟨ls, e1, hl⟩ := lines_some h
  obtain ⟨gx, gm⟩ := g.get e1
  rcases gx.or _ hl with h | h
  · cases l with
    | lst w ps t => cases e
    | lt k x t => cases e; exact h.2
    | fn f ps t => cases e; exact h.2.2.2
    | dw k t => cases e; exact h
  · cases h with
    | lt h3 => cases e; exact h3
    | dw h3 => cases e; exact h3
    | fn h3 => cases e; exact h3
    | imp => cases e
    | exp => cases e
/-- small faults -/
structure smF (f : Flt) : Prop where
  w : f.w.length ≤ 8 ∧ ∀ c ∈ f.w.cps.toList, c < 1000
  m : smN f.m
  x : smN f.x
theorem smWord : ∀ z ∈ ([("name" : Str), "variable", "function", "count"] : List Str), z.length ≤ 8 ∧ ∀ c ∈ z.cps.toList, c < 1000 := by decide +kernel
theorem sF1 {m x : NM} (hm : smN m) (hx : smN x) : smF ⟨"name", m, x⟩ := ⟨smWord _ (by simp), hm, hx⟩
theorem sF2 {m x : NM} (hm : smN m) (hx : smN x) : smF ⟨"variable", m, x⟩ := ⟨smWord _ (by simp), hm, hx⟩
theorem sF3 {m x : NM} (hm : smN m) (hx : smN x) : smF ⟨"function", m, x⟩ := ⟨smWord _ (by simp), hm, hx⟩
theorem sF4 {m x : NM} (hm : smN m) (hx : smN x) : smF ⟨"count", m, x⟩ := ⟨smWord _ (by simp), hm, hx⟩
theorem varF_sm {ms : Mods} {m x : NM} {ps : List NM} {b : Bool} {f : Flt} (hm : smN m) (hx : smN x) (e : varF ms m ps x b = some f) : smF f := by
  unfold varF at e
  cases h : mean ms m ps x with
  | none => rw [h] at e; cases e; exact sF1 hm hx
  | some y =>
    rw [h] at e
    cases y with
    | par => cases b <;> cases e; exact sF2 hm hx
    | ln l => cases l <;> cases e <;> exact sF2 hm hx
theorem callF_sm {ms : Mods} {m x : NM} {ps : List NM} {k : Nat} {f : Flt} (hm : smN m) (hx : smN x) (e : callF ms m ps x k = some f) : smF f := by
  unfold callF at e
  cases h : mean ms m ps x with
  | none => rw [h] at e; cases e; exact sF1 hm hx
  | some y =>
    rw [h] at e
    cases y with
    | par => cases e; exact sF3 hm hx
    | ln l =>
      cases l with
      | fn g qs t =>
        dsimp only at e
        by_cases z : qs.length = k
        · rw [if_pos z] at e; cases e
        · rw [if_neg z] at e; cases e; exact sF4 hm hx
      | lst _ _ _ => cases e; exact sF3 hm hx
      | lt _ _ _ => cases e; exact sF3 hm hx
      | dw _ _ => cases e; exact sF3 hm hx
theorem nmSm {x : NM} (h1 : nmB x = true) (h2 : x.length ≤ 6) : smN x := ⟨h2, fun c hc => by
  have g := (nmB_good h1).2.2 c hc
  have : ∀ c ∈ LET, c < 1000 := by decide
  exact this c g⟩
mutual
theorem tf_sm {ms : Mods} {m : NM} {ps : List NM} {f : Flt} (hm : smN m) : ∀ {d : Nat} (t : Tr), Dr d t → tf ms m ps t = some f → smF f
  | _, .num _, _, e => by rw [tf] at e; cases e
  | _, .str _, _, e => by rw [tf] at e; cases e
  | _, .name x, .name h1 h2, e => by rw [tf] at e; exact varF_sm hm (nmSm h1 h2) e
  | _, .call x as, .call h1 h2 _ h4, e => by
    rw [tf] at e
    cases h : callF ms m ps x as.length with
    | some y => rw [h] at e; cases e; exact callF_sm hm (nmSm h1 h2) h
    | none => rw [h] at e; exact tfL_sm hm as h4 e
  | _, .ite a b c, .ite h1 h2 h3, e => by
    rw [tf] at e
    cases ha : tf ms m ps a with
    | some y => rw [ha] at e; cases e; exact tf_sm hm a h1 ha
    | none =>
      rw [ha, Option.none_or] at e
      cases hb : tf ms m ps b with
      | some y => rw [hb] at e; cases e; exact tf_sm hm b h2 hb
      | none => rw [hb, Option.none_or] at e; exact tf_sm hm c h3 e
  | _, .set x t, .set h1 h2 h3, e => by
    rw [tf] at e
    cases h : varF ms m ps x false with
    | some y => rw [h] at e; cases e; exact varF_sm hm (nmSm h1 h2) h
    | none => rw [h, Option.none_or] at e; exact tf_sm hm t h3 e
  | _, .seq a b, .seq h1 h2, e => by
    rw [tf] at e
    cases ha : tf ms m ps a with
    | some y => rw [ha] at e; cases e; exact tf_sm hm a h1 ha
    | none => rw [ha, Option.none_or] at e; exact tf_sm hm b h2 e
  | _, .op _ a b, .op _ h1 h2, e => by
    rw [tf] at e
    cases ha : tf ms m ps a with
    | some y => rw [ha] at e; cases e; exact tf_sm hm a h1 ha
    | none => rw [ha, Option.none_or] at e; exact tf_sm hm b h2 e
theorem tfL_sm {ms : Mods} {m : NM} {ps : List NM} {f : Flt} (hm : smN m) : ∀ {d : Nat} (as : List Tr), (∀ t ∈ as, Dr d t) → tfL ms m ps as = some f → smF f
  | _, [], _, e => by rw [tfL] at e; cases e
  | _, t :: r, h, e => by
    rw [tfL] at e
    cases ha : tf ms m ps t with
    | some y => rw [ha] at e; cases e; exact tf_sm hm t (h t (List.mem_cons_self ..)) ha
    | none => rw [ha, Option.none_or] at e; exact tfL_sm hm r (fun x hx => h x (List.mem_cons_of_mem _ hx)) e
end
theorem Good6.nf {ms : Mods} {os ord : List NM} (g : Good6 ms os) (ho : ∀ m ∈ ord, m ∈ os) {f : Flt} (e : nf ms ord = some f) : smF f := by
  unfold K3.nf at e
  obtain ⟨m, hm, e⟩ := List.exists_of_findSome?_eq_some e
  obtain ⟨l, hl, e⟩ := List.exists_of_findSome?_eq_some e
  have sm := (smO _ (g.sub _ (ho m hm))).1
  have hc := g.lc l hl
  cases l with
  | lst w ps t =>
    obtain ⟨p, hp, e⟩ := List.exists_of_findSome?_eq_some (show ps.findSome? (lstF ms t) = some f from e)
    unfold lstF at e
    by_cases z : (turns ms 100 (t, p.1)).isNone = true
    · rw [if_pos z] at e; cases e; exact sF1 (hc p hp).1 (hc p hp).2
    · rw [if_neg z] at e; cases e
  | lt k x t => exact tf_sm sm t (g.dr hl rfl) e
  | fn x ps t => exact tf_sm sm t (g.dr hl rfl) e
  | dw k t => exact tf_sm sm t (g.dr hl rfl) e
def fltD (f : Flt) : PyData := .tuple [.str f.w, .str (S f.m), .str (S f.x)]
theorem alk_flt {K : PySem.W.Frag} {H : Hp} {v u : V} {o : Option Flt} (hv : optV H (FltV H) v o) (hu : optV H (FltV H) u o) (hf : ∀ x, o = some x → smF x) : Alk K H v u :=
  alk_opt (D := fltD) hv hu (fun x v e h => by
    obtain ⟨q, rfl, h⟩ := h
    exact .tup (SqT.of h) (.cons (.str _) (.cons (.str _) (.cons (.str _) .nil)))) fun x e => ⟨(Fit.tup (k := 0) (B := 82) (mem3 (Fit.str (n := 8) (hf x e).w.1 (hf x e).w.2) ((Fit.strS (n := 6) (hf x e).m.1 (hf x e).m.2).more (by decide) (by decide)) ((Fit.strS (n := 6) (hf x e).x.1 (hf x e).x.2).more (by decide) (by decide)))).more (by omega) (by simp only [List.length_cons, List.length_nil]; omega), fun e => by cases e⟩
theorem visL_none {ms : Mods} {f : NM → DS → DR} (hf : ∀ m s x, f m s = .inl x → mget ms x = none) : ∀ {ts : List NM} {s : DS} {x : NM}, visL f ts s = .inl x → mget ms x = none
  | [], s, x, h => by cases h
  | t :: r, s, x, h => by
    rw [visL] at h
    cases e : f t s with
    | inl y => rw [e] at h; cases h; exact hf _ _ _ e
    | inr s1 => rw [e] at h; exact visL_none hf h
theorem vis_none {ms : Mods} : ∀ k m s x, vis ms k m s = .inl x → mget ms x = none
  | 0, m, s, x, h => by cases h
  | k + 1, m, s, x, h => by
    rw [vis] at h
    by_cases e : m ∈ s.1
    · rw [if_pos e] at h; cases h
    · rw [if_neg e] at h
      cases e2 : mget ms m with
      | none => rw [e2] at h; cases h; exact e2
      | some ls =>
        rw [e2] at h
        dsimp only at h
        cases e3 : visL (vis ms k) (tgs ls) (s.1 ++ [m], s.2) with
        | inl y => rw [e3] at h; cases h; exact visL_none (vis_none k) e3
        | inr s1 => rw [e3] at h; cases h
theorem Good6.order {ms : Mods} {os : List NM} (g : Good6 ms os) : ∃ s : DS, allV ms os = .inr s ∧ ∀ x ∈ s.2, x ∈ os := by
  have h1 := visL_in (ms := ms) (G := fun x => x ∈ os) (f := vis ms 5) (vis_in (fun m ls h t ht => by
    obtain ⟨gx, gm⟩ := g.get h
    obtain ⟨l, hl, e⟩ := List.mem_filterMap.mp ht
    rcases gx.or _ hl with h | h
    · cases l with
      | lst w ps t' => cases e; exact h.2.2.1
      | lt _ _ _ => cases e
      | fn _ _ _ => cases e
      | dw _ _ => cases e
    · cases h with
      | imp => cases e; exact gm
      | exp => cases e; exact gm
      | lt _ => cases e
      | fn _ => cases e
      | dw _ => cases e) 5) (ts := os) (s := ([], [])) (fun t h => h) (fun x hx => by cases hx)
  unfold allV
  cases e : visL (vis ms 5) os ([], []) with
  | inl x =>
    rw [e] at h1
    have hn := visL_none (vis_none 5) e
    obtain ⟨ls, e2, _⟩ := mget_in (ms := ms) (n := x) (by rw [g.fst]; exact h1)
    rw [hn] at e2
    cases e2
  | inr s => rw [e] at h1; exact ⟨s, rfl, h1⟩
theorem Good6.some {ms : Mods} {os : List NM} (g : Good6 ms os) {x : NM} (h : x ∈ os) : (mget ms x).isSome = true := by
  obtain ⟨ls, e, _⟩ := mget_in (ms := ms) (n := x) (by rw [g.fst]; exact h)
  rw [e]; rfl
end K3

set_option maxRecDepth 100000
set_option maxHeartbeats 16000000
/-! the law -/
namespace K3
open PySem hiding Tok code
open PySem.Spec PyProof.Rows GD K1
open L2 hiding rest
open K2 hiding Sp P
abbrev sLaw6 : Stmt := topS 40
def abc : List NM := [[97], [98], [99]]
section
variable {P : Program} {w : World} {K : PySem.W.Frag} {mg : Str → Option Value} {base : Heap}
theorem slA_go {b d : Addr} {ds : List Int} {H0 H : Hp} {n : Nat} {a : Addr} {xs : List V} {lo hi : Option Int} {Q : VK} (bs : Bs b d ds H0 H n) (hx : H a = some (.tup xs))
    (q : ∀ p H1, Bs b d ds H0 H1 n → Same H H1 → H1 p = some (.tup (cutV xs lo hi)) → Q (.ref p) H1) : rSlA K (.ref a) lo hi H Q := by
  refine ⟨a, xs, rfl, SqT.of hx, fun e => q a H bs (Same.refl H) ?_, fun _ p np => q p _ (bs.new np) (Same.up (Same.refl H) np) upd_same⟩
  unfold cutV
  rw [e.1, e.2, List.drop_zero, Nat.sub_zero, List.take_length]
  exact hx
theorem catA_go {b d : Addr} {ds : List Int} {H0 H : Hp} {n : Nat} {a a2 : Addr} {xs ys : List V} {Q : VK} (bs : Bs b d ds H0 H n) (hx : H a = some (.tup xs)) (hy : H a2 = some (.tup ys)) (hz : xs.length + ys.length ≤ sizeLine)
    (q : ∀ p H1, Bs b d ds H0 H1 n → Same H H1 → H1 p = some (.tup (xs ++ ys)) → Q (.ref p) H1) : rCatA K (.ref a) (.ref a2) H Q := by
  refine ⟨a, a2, xs, ys, rfl, rfl, SqT.of hx, SqT.of hy, hz, fun e => ?_, fun _ e => ?_, fun _ _ p np => q p _ (bs.new np) (Same.up (Same.refl H) np) upd_same⟩
  · subst e; exact q a2 H bs (Same.refl H) hy
  · subst e; exact q a H bs (Same.refl H) (by rw [List.append_nil]; exact hx)
theorem noPart_go {σ : L2.St} {H : Hp} {Q : Option Int → Hp → Prop} (h : Q none H) : tNoPart σ H Q := h
theorem cutD (xs : List V) (n : Nat) : cutV xs (some (n : Int)) none = xs.drop n := by
  unfold cutV
  have e1 : HT.sIx xs.length 0 (some (n : Int)) = min n xs.length := HT.sIx_nat _ _ n
  have e2 : HT.sIx xs.length xs.length none = xs.length := rfl
  rw [e1, e2]
  by_cases h : n ≤ xs.length
  · rw [Nat.min_eq_left h, List.take_of_length_le (by rw [List.length_drop]; omega)]
  · rw [Nat.min_eq_right (by omega), List.drop_of_length_le (Nat.le_refl _), List.drop_of_length_le (by omega), List.take_nil]
theorem LVs.take {H : Hp} {vs : List V} {ls : List Ln} (h : LVs H vs ls) : ∀ n, LVs H (vs.take n) (ls.take n) := by
  induction h with
  | nil => intro n; rw [List.take_nil, List.take_nil]; exact .nil
  | cons r _ ih =>
    intro n
    cases n with
    | zero => exact .nil
    | succ n => exact .cons r (ih n)
theorem LVs.drop {H : Hp} {vs : List V} {ls : List Ln} (h : LVs H vs ls) : ∀ n, LVs H (vs.drop n) (ls.drop n) := by
  induction h with
  | nil => intro n; rw [List.drop_nil, List.drop_nil]; exact .nil
  | cons r h ih =>
    intro n
    cases n with
    | zero => exact .cons r h
    | succ n => exact ih n
theorem LVs.app {H : Hp} {us vs : List V} {ls ms : List Ln} (h1 : LVs H us ls) (h2 : LVs H vs ms) : LVs H (us ++ vs) (ls ++ ms) := by
  induction h1 with
  | nil => exact h2
  | cons r _ ih => exact .cons r ih
def spLaw (K : PySem.W.Frag) : L2.Sp := fun vs H Q _ => ∃ (a : Addr) (ns : List Int), vs = [.ref a] ∧ SqL K H a (ns.map V.int) ∧ ∀ H', Q (.bl true) H'
theorem scLaw6 : FnScope ["script", "box", "turn", "names", "modules", "name", "lines", "at", "told"] ["script"] (defScope sLaw6) := ⟨rfl, rfl, rfl, by decide +kernel, rfl, by decide +kernel, by decide +kernel⟩
theorem ok_law6 {f f1 f2 f3 f4 f5 f6 f7 fal : Addr} {fd g1 g2 g3 g4 g5 g6 g7 dal : FuncData} (F : Fun K "law" "law" sLaw6 f fd) (T : Txt K mg) (T2 : Txt2 mg)
    (GD1 : FO P w K mg base CX0 2 "_law_digits" ["script", "first", "last"] (spDigits K) f1 g1) (GR : FO P w K mg base CX0 1 "_law_draw" ["box", "many"] spDraw f2 g2)
    (GM : FO P w K mg base CX0 8 "_law_modules" ["box", "names"] spMods f3 g3) (GW : FO P w K mg base CX0 3 "_law_wrong_line" ["box", "name"] spWL f4 g4)
    (GRe : FO P w K mg base CX0 7 "reach" ["modules", "entries"] spOrd f5 g5) (GC : FO P w K mg base CX0 20 "check_names" ["modules", "order"] spChkN f6 g6) (GN : FO P w K mg base CX0 18 "_law_names_fault" ["modules", "order"] spLNames f7 g7)
    (FA : FnG P w K mg base CX0 1 fal dal ["one", "two"] (spAlk K)) (ma : mg "_law_alike" = some (.ref fal)) (ka : PySem.W.keepIn K (.ref fal) = true) (ba : Binds K dal ["one", "two"] []) :
    FnG P w K mg base CX0 21 f fd ["script"] (spLaw K) := by
  have sc := scLaw6
  refine okG F sc (fun vs H Q E h => ?_) (fun cdv A outer s H vs Q E hgd hr h => ?_)
  · obtain ⟨a, ns, rfl, _⟩ := h
    rfl
  · obtain ⟨a, ns, rfl, hS, q⟩ := h
    have hr1 := hr.mono (show 1 ≤ 20 by decide)
    have hr2 := hr.mono (show 2 ≤ 20 by decide)
    have hr3 := hr.mono (show 3 ≤ 20 by decide)
    have hr7 := hr.mono (show 7 ≤ 20 by decide)
    have hr8 := hr.mono (show 8 ≤ 20 by decide)
    have hr18 := hr.mono (show 18 ≤ 20 by decide)
    refine ⟨_, (pss_cons (ps_set (i := 1) sc.nd rfl (Or.inl rfl) (pe_lst (pa_cons (pe_call GD1.ok hr2 (by rfl) GD1.m GD1.kp GD1.b .nil pass0 (pa_cons (pv 0) (pa_cons pe_int (pa_cons pe_int pa_nil)))) (pa_cons pe_int pa_nil))))
      (pss_cons (ps_for PassesOwn.never rfl (pi_range1 rfl T.range (pa_cons pe_int pa_nil)) (pg_name (i := 2) sc.nd rfl (Or.inl rfl))
      (pss_cons (ps_set (i := 3) sc.nd rfl (Or.inl rfl) (pe_slice sl_list (pe_lst (pa_cons pe_str (pa_cons pe_str (pa_cons pe_str pa_nil)))) po_none (po_some (pe_op op_add pe_int (pe_call GR.ok hr1 (by rfl) GR.m GR.kp GR.b .nil pass0 (pa_cons (pv 1) (pa_cons pe_int pa_nil)))))))
      (pss_cons (ps_set (i := 4) sc.nd rfl (Or.inl rfl) (pe_call GM.ok hr8 (by rfl) GM.m GM.kp GM.b .nil pass0 (pa_cons (pv 1) (pa_cons (pv 3) pa_nil))))
      (pss_cons (ps_for PassesOwn.never rfl (pi_list (pv 3)) (pg_name (i := 5) sc.nd rfl (Or.inl rfl))
      (pss_one (ps_if (pt_cmpR op_eq (pe_call GR.ok hr1 (by rfl) GR.m GR.kp GR.b .nil pass0 (pa_cons (pv 1) (pa_cons pe_int pa_nil))) pe_int (nomark _))
      (pss_cons (ps_set (i := 6) sc.nd rfl (Or.inl rfl) (pe_dget (hu_of hr) (pv 4) (pv 5) (fun _ _ => rfl)))
      (pss_cons (ps_set (i := 7) sc.nd rfl (Or.inl rfl) (pe_call GR.ok hr1 (by rfl) GR.m GR.kp GR.b .nil pass0 (pa_cons (pv 1) (pa_cons (pe_op op_add (pe_callB call_len_seq (by rfl) T.len (by decide +kernel) (pa_cons (pv 6) pa_nil)) pe_int) pa_nil))))
      (pss_one (ps_dput (hu_of hr) (pv 4) (pv 5) (pe_op op_catA (pe_op op_catA (pe_slice sl_tupA (pv 6) po_none (po_some (pv 7))) (pe_tup (pa_cons (pe_call GW.ok hr3 (by rfl) GW.m GW.kp GW.b .nil pass0 (pa_cons (pv 1) (pa_cons (pv 5) pa_nil))) pa_nil))) (pe_slice sl_tupA (pv 6) (po_some (pv 7)) po_none)) rfl))))
      pss_nil)))
      (pss_cons (ps_set (i := 8) sc.nd rfl (Or.inl rfl) (pe_call GRe.ok hr7 (by rfl) GRe.m GRe.kp GRe.b .nil pass0 (pa_cons (pv 4) (pa_cons (pe_callTy call_tuple_of (by rfl) T2.btuple (by decide +kernel) (pa_cons (pv 3) pa_nil)) pa_nil))))
      (pss_cons (ps_if (pt_cmpR op_ne (pe_ix ix_tup (pv 8) pe_int (fun _ _ => rfl)) pe_str (nomark _))
      (pss_one (ps_ret pe_bl))
      pss_nil)
      (pss_one (ps_if (pt_not (pt_val (pe_callG FA hgd hr1 (by rfl) ma ka ba .nil pass0 (pa_cons (pe_call GC.ok hr (by rfl) GC.m GC.kp GC.b .nil pass0 (pa_cons (pv 4) (pa_cons (pe_ix ix_tup (pv 8) pe_int (fun _ _ => rfl)) pa_nil))) (pa_cons (pe_call GN.ok hr18 (by rfl) GN.m GN.kp GN.b .nil pass0 (pa_cons (pv 4) (pa_cons (pe_ix ix_tup (pv 8) pe_int (fun _ _ => rfl)) pa_nil))) pa_nil)))))
      (pss_one (ps_ret pe_bl))
      pss_nil))))))))
      (pss_one (ps_ret pe_bl)))), ?_⟩
    refine ⟨_, rfl, a, ns, rfl, hS, fun H1 d ds s1 nd ed ld => ⟨two_le, fun b nb => ?_⟩⟩
    have B0 : Box (upd H1 b (.lst [.ref d, .int 0])) b d ds 0 := ⟨upd_same, by rw [upd_ne (ne_of_none ed nb)]; exact ed, ld⟩
    refine ⟨_, rfl, by decide, by decide, for_range (lo := 0) (n := 5) (fun i σ H' => ∃ (n : Nat) (y2 y3 y4 y5 y6 y7 y8 : Option V), σ = [some (.ref a), some (.ref b), y2, y3, y4, y5, y6, y7, y8] ∧ Box H' b d ds n)
      ⟨0, none, none, none, none, none, none, none, rfl, B0⟩ ?_ ?_⟩
    rotate_left
    · rintro σ H2 ⟨n, y2, y3, y4, y5, y6, y7, y8, rfl, _⟩
      exact q H2
    rintro i σ Ha hi ⟨n, y2, y3, y4, y5, y6, y7, y8, rfl, ba0⟩
    refine ⟨three_le, fun l1 nl1 => ?_⟩
    have v1 := (Bs.refl ba0).new (o := .lst (sts abc)) nl1
    refine ⟨_, rfl, b, d, ds, n, 2, rfl, v1.box, by decide, fun r h0 h1 => ?_⟩
    obtain ⟨jr, rfl, hjr⟩ := idx (m := 2) h0 h1
    have v2 := v1.draw
    refine ⟨_, _, rfl, rfl, ?_⟩
    have e1 : (upd (upd Ha l1 (.lst (sts abc))) b (.lst [.ref d, .int ((n + 1 : Nat) : Int)])) l1 = some (.lst (sts abc)) := (Bs.refl v1.box).draw.bx _ _ ((Bs.refl ba0).nb nl1) upd_same
    refine ⟨_, rfl, l1, sts abc, rfl, SqL.of e1, fun lo nlo => ?_⟩
    rw [show (2 : Int) + (jr : Int) = ((2 + jr : Nat) : Int) by omega, cutTn, ← List.map_take] at *
    obtain ⟨os, eos⟩ : ∃ os, os = abc.take (2 + jr) := ⟨_, rfl⟩
    rw [← eos]
    have o4 : ∀ o ∈ os, o ∈ mods4 := fun o h => by
      have : ∀ o ∈ abc, o ∈ mods4 := by decide +kernel
      exact this o (List.mem_of_mem_take (by rw [eos] at h; exact h))
    have ol : os.length ≤ 4 := by rw [eos, List.length_take]; show min (2 + jr) 3 ≤ 4; omega
    have ond : os.Nodup := by rw [eos]; exact List.Nodup.sublist (List.take_sublist _ _) (by decide)
    have v3 := v2.new (o := .lst (sts os)) nlo
    have nlb := v2.nb nlo
    have nmo : ∀ l ∈ os, nmB l = true ∧ l.length ≤ 6 := fun l hl => by
      have : ∀ o ∈ mods4, nmB o = true ∧ o.length ≤ 6 := by decide +kernel
      exact this l (o4 l hl)
    refine ⟨_, rfl, _, rfl, b, d, ds, _, lo, os, rfl, v3.box, ⟨upd_same, nmo, by omega⟩, o4, ol, ond, fun H4 D n4 ms bs4 nD md4 fst4 dm4 => ?_⟩
    have nlD : lo ≠ D := ne_of_none upd_same nD
    have elo4 : H4 lo = some (.lst (sts os)) := bs4.bx _ _ nlb upd_same
    refine ⟨_, rfl, lo, rfl, ⟨_, SqL.of elo4⟩, for_list (K := K) (a := lo) (xs := sts os) (fun k σ H' => ∃ (y5 y6 y7 : Option V) (ms' : Mods) (n' : Nat), σ = [some (.ref a), some (.ref b), some (.int (0 + (i : Nat))), some (.ref lo), some (.ref D), y5, y6, y7, y8] ∧ Fx b d D ds H4 H' n' ∧ H' lo = some (.lst (sts os)) ∧ MD H' D ms' ∧ ms'.map (·.1) = os ∧ ∀ m ∈ ms', if m.1 ∈ os.take k then W6 m.1 os m.2 else DM m.1 os m.2)
      ⟨_, _, _, ms, n4, rfl, ⟨fun q o _ _ h => h, bs4.box, fun q h => h⟩, elo4, md4, fst4, fun m hm => dm4 m hm⟩ (fun k σ H' _ ⟨_, _, _, _, _, _, _, e, _⟩ => SqL.of e) ?_ ?_⟩
    · rintro k x σ H5 hx ⟨y5, y6, y7, ms5, n5, rfl, k5, elo5, ⟨kvs, ek, kk⟩, fst5, hD5⟩
      rw [List.getElem?_map, Option.map_eq_some_iff] at hx
      obtain ⟨t, ht, rfl⟩ := hx
      have htm : t ∈ os := List.mem_of_getElem? ht
      have tk : ∀ x, x ∈ os.take (k + 1) ↔ (x ∈ os.take k ∨ x = t) := fun x => by
        rw [List.take_add_one, ht]
        simp
      have tn : t ∉ os.take k := fun z => by
        obtain ⟨j, hj, e⟩ := List.mem_iff_getElem.mp z
        rw [List.length_take] at hj
        rw [List.getElem_take] at e
        obtain ⟨hk, e2⟩ := List.getElem?_eq_some_iff.mp ht
        exact (List.pairwise_iff_getElem.mp ond) j k (by omega) hk (by omega) (e.trans e2.symm)
      refine ⟨_, rfl, b, d, ds, n5, 3, rfl, k5.box, by decide, fun r0 h0 h1 => ⟨rfl, _, rfl, ite2 (fun _ => ?_) (fun _ => ?_)⟩⟩
      · have w1 := (Bs.refl k5.box).draw
        have nDb : D ≠ b := ne_of ek k5.box.1 (by intro z; cases z)
        obtain ⟨ls, els, hm4⟩ := mget_in (ms := ms5) (n := t) (by rw [fst5]; exact htm)
        obtain ⟨qv, vs, e8, h8, lv8⟩ := kk.got els
        have dmt : DM t os ls := by have := hD5 _ hm4; rw [if_neg tn] at this; exact this
        have ll := dmt.len ol
        have vl : vs.length = ls.length := Paired.length lv8
        have ekd := w1.bx _ _ nDb ek
        have tup : ∀ {H' : Hp} {n' : Nat}, Bs b d ds H5 H' n' → ∀ q xs, H5 q = some (.tup xs) → H' q = some (.tup xs) := fun y => Bs.tup y k5.box
        generalize upd H5 b (.lst [.ref d, .int ((n5 + 1 : Nat) : Int)]) = H6 at *
        refine ⟨_, rfl, _, rfl, D, .ref qv, rfl, (by rw [← e8]; exact DGet.k (k := .inr (S t)) ekd), ?_⟩
        refine ⟨_, rfl, _, rfl, qv, vs, rfl, .inr (SqT.of (tup w1 _ _ h8)), _, _, rfl, rfl, b, d, ds, _, vs.length + 1, rfl, w1.box, by omega, fun r1 h2 h3 => ?_⟩
        obtain ⟨j, rfl, hj⟩ := idx (m := vs.length + 1) h2 h3
        have w2 := w1.draw
        generalize upd H6 b (.lst [.ref d, .int ((n5 + 1 + 1 : Nat) : Int)]) = H7 at *
        refine ⟨_, rfl, _, rfl, _, rfl, slA_go w2 (tup w2 _ _ h8) fun p1 H8 w3 s8 e1 => ?_⟩
        rw [cutTn] at e1
        refine ⟨_, rfl, _, rfl, b, d, ds, _, t, rfl, w3.box, o4 t htm, fun H9 n9 u l bs9 lu wl => ⟨one_le, fun t9 nt9 => ?_⟩⟩
        have w4 := (w3.trans bs9).new (o := .tup [u]) nt9
        have e2 := newtup (o := .tup [u]) nt9 _ _ (Bs.tup bs9 w3.box _ _ e1)
        have e3 : upd H9 t9 (.tup [u]) t9 = some (.tup [u]) := upd_same
        have lu2 := LV.imp (newtup (o := .tup [u]) nt9) lu
        generalize upd H9 t9 (.tup [u]) = HA at *
        have lt : (vs.take j).length ≤ vs.length := by rw [List.length_take]; omega
        have ld : (vs.drop j).length ≤ vs.length := by rw [List.length_drop]; omega
        refine catA_go w4 e2 e3 (szle (by show (vs.take j).length + 1 ≤ 1000; omega)) fun p2 HB w5 sB e4 => ?_
        refine ⟨_, rfl, _, rfl, _, rfl, noPart_go ?_⟩
        refine slA_go w5 (tup w5 _ _ h8) fun p3 HC w6 sC e5 => ?_
        rw [cutD] at e5
        refine catA_go w6 (sC _ _ e4) e5 (szle (by rw [List.length_append]; show (vs.take j).length + 1 + (vs.drop j).length ≤ 1000; omega)) fun p4 HD w7 sD e6 => ?_
        have ek7 := w7.bx _ _ nDb ek
        have kk7 := KVs.imp (tup w7) kk
        have kl7 := Paired.length kk7
        have ml7 := congrArg List.length fst5
        rw [List.length_map] at ml7
        have lv7 := LVs.imp (tup w7) lv8
        have lu7 := LV.imp (same_tup (fun q o h => sD _ _ (sC _ _ (sB _ _ h)))) lu2
        have mv7 : MV HD (.ref p4) (ls.take j ++ l :: ls.drop j) := ⟨p4, _, rfl, e6, by
          have key : LVs HD (vs.take j ++ [u] ++ vs.drop j) (ls.take j ++ [l] ++ ls.drop j) := LVs.app (LVs.app (lv7.take j) (.cons lu7 .nil)) (lv7.drop j)
          rw [← List.append_cons (ls.take j) l] at key
          exact key⟩
        refine ⟨_, rfl, _, rfl, D, _, rfl, DPut.k (k := .inr (S t)) ek7 (szl (by omega)), ?_⟩
        refine ⟨_, _, _, mset ms5 t (ls.take j ++ l :: ls.drop j), _, rfl, (k5.bs w7).wdm ek7, (upd_ne nlD).trans (w7.bx _ _ nlb elo5), MD.set ek7 kk7 mv7 (by rw [fst5]; exact htm), (mset_fst _ t _).trans fst5, mset_all (fun m hm e => ?_) ?_⟩
        · have hh := hD5 m hm
          by_cases e2 : m.1 ∈ os.take k
          · rw [if_pos e2] at hh; rw [if_pos ((tk _).mpr (.inl e2))]; exact hh
          · rw [if_neg e2] at hh; rw [if_neg (fun z => ((tk _).mp z).elim e2 e)]; exact hh
        · rw [if_pos ((tk _).mpr (.inr rfl))]
          exact W6.put dmt j wl
      · refine ⟨_, _, _, ms5, n5 + 1, rfl, k5.bs (Bs.refl k5.box).draw, ?_, MD.bs ⟨kvs, ek, kk⟩ (Bs.refl k5.box).draw k5.box (ne_of ek k5.box.1 (by intro z; cases z)), fst5, fun m hm => ?_⟩
        · exact (Bs.refl k5.box).draw.bx _ _ nlb elo5
        · have hh := hD5 m hm
          by_cases e : m.1 = t
          · rw [e, if_neg tn] at hh
            rw [if_pos ((tk _).mpr (.inr e)), e]
            exact W6.of hh
          · by_cases e2 : m.1 ∈ os.take k
            · rw [if_pos e2] at hh; rw [if_pos ((tk _).mpr (.inl e2))]; exact hh
            · rw [if_neg e2] at hh; rw [if_neg (fun z => ((tk _).mp z).elim e2 e)]; exact hh
    · rintro σ H5 ⟨y5, y6, y7, ms5, n5, rfl, k5, elo5, hM5, fst5, hD5⟩
      refine ⟨_, rfl, _, rfl, lo, _, rfl, .inl ⟨SqL.of elo5, fun p np => ?_⟩⟩
      have g : Good6 ms5 os := ⟨fst5, o4, ol, fun m hm => by
        have := hD5 m hm
        rw [List.length_map, List.take_length, if_pos (by rw [← fst5]; exact List.mem_map.mpr ⟨m, hm, rfl⟩)] at this
        exact this⟩
      have z1 := (Bs.refl k5.box).new (o := .tup (sts os)) np
      have s1 : Same H5 (upd H5 p (.tup (sts os))) := Same.up (Same.refl H5) np
      have hM1 := hM5.same s1
      have ep : upd H5 p (.tup (sts os)) p = some (.tup (sts os)) := upd_same
      generalize upd H5 p (.tup (sts os)) = H6 at *
      refine ⟨D, p, ms5, os, rfl, hM1, g.mlen, ep, fun H7 v7 s7 r7 => ?_⟩
      obtain ⟨so, eso, hso⟩ := g.order
      rw [eso] at r7
      obtain ⟨tq, ta, rfl, h1, h2⟩ := r7
      refine ⟨_, rfl, tq, _, _, _, rfl, rfl, SqT.of h1, atI_nat (j := 0) rfl, rfl, _, rfl, iteF ?_⟩
      have hM7 := hM1.same s7
      refine ⟨_, rfl, _, rfl, tq, _, _, _, rfl, rfl, SqT.of h1, atI_nat (j := 1) rfl, ?_⟩
      refine ⟨D, ta, ms5, so.2, rfl, hM7, h2, fun m hm => ⟨g.some (hso m hm), g.av m, g.lc⟩, fun H8 u8 s8 r8 => ?_⟩
      refine ⟨_, rfl, _, rfl, tq, _, _, _, rfl, rfl, SqT.of (s8 _ _ h1), atI_nat (j := 1) rfl, ?_⟩
      refine ⟨D, ta, ms5, so.2, rfl, hM7.same s8, s8 _ _ h2, fun m hm => ⟨g.some (hso m hm), g.lw m, g.lc⟩, fun H9 u9 s9 r9 => ?_⟩
      refine ⟨u8, u9, rfl, alk_flt (optF_imp (same_tup s9) r8) r9 (fun x e => g.nf hso e), _, rfl, iteF ?_⟩
      have b6 : Box H9 b d ds n5 := by
        have b5 := z1.box
        have s69 : Same H6 H9 := fun q o h => s9 _ _ (s8 _ _ (s7 _ _ h))
        exact ⟨s69 _ _ b5.1, s69 _ _ b5.2.1, b5.2.2⟩
      exact ⟨_, _, _, _, _, _, _, _, rfl, b6⟩
end
end K3

set_option maxRecDepth 100000
set_option maxHeartbeats 16000000
namespace K3
open PySem hiding Tok code
open PySem.Spec PyProof.Rows GD K1
open L2 hiding rest
open K2 hiding Sp P
abbrev sLaw : Stmt := topS 40
def strOf : Value → Option Str
  | .str x _ => some x
  | _ => none
theorem vals_strs : ∀ (l : List Str) (us : List Value), us.map strOf = l.map some → Vals (l.map V.str) us
  | [], [], _ => .nil
  | [], _ :: _, h => by cases h
  | _ :: _, [], h => by cases h
  | x :: l, u :: us, h => by
    have h1 : strOf u = some x := (List.cons.inj h).1
    have h2 : us.map strOf = l.map some := (List.cons.inj h).2
    refine .cons ?_ (vals_strs l us h2)
    cases u with
    | str z t =>
      have e : z = x := Option.some.inj h1
      subst e
      exact ⟨t, rfl⟩
    | _ => cases h1

theorem end_at {l : PySem.W.OpenLaw} {q : Program} {w : World} {K : PySem.W.Frag} {h : Heap} {mg : Str → Option Value} {fa : Addr} (X : K.In h) (G : h.Ns mainGlobals mg) (hfa : mg "law" = some (.ref fa)) (TB : TabsAt q K mg h)
    {f1 f2 f3 f4 f5 f6 f7 f8 f9 f10 f11 f12 f13 f14 f15 f16 f17 f18 f19 f20 f21 f22 f23 f24 f25 f26 f27 f28 f29 f30 f31 f32 f33 f34 f35 f36 f37 f38 f39 f40  CW CS  rO rL : Addr} {od1 an1 od2 an2 od3 an3 od4 an4 od5 an5 od6 an6 od7 an7 od8 an8 od9 an9 od10 an10 od11 an11 od12 an12 od13 an13 od14 an14 od15 an15 od16 an16 od17 an17 od18 an18 od19 an19 od20 an20 od21 an21 od22 an22 od23 an23 od24 an24 od25 an25 od26 an26 od27 an27 od28 an28 od29 an29 od30 an30 od31 an31 od32 an32 od33 an33 od34 an34 od35 an35 od36 an36 od37 an37 od38 an38 od39 an39 od40 an40  dO dL : Option Addr} {sl1 sl2 sl3 sl4 sl5 sl6 sl7 sl8 sl9 sl10 sl11 sl12 sl13 sl14 sl15 sl16 sl17 sl18 sl19 sl20 sl21 sl22 sl23 sl24 sl25 sl26 sl27 sl28 sl29 sl30 sl31 sl32 sl33 sl34 sl35 sl36 sl37 sl38 sl39 sl40  sO sL : Array (Option Value)}
    {oc1 kV1 dc1 pm1 ct1 oc2 kV2 dc2 pm2 ct2 oc3 kV3 dc3 pm3 ct3 oc4 kV4 dc4 pm4 ct4 oc5 kV5 dc5 pm5 ct5 oc6 kV6 dc6 pm6 ct6 oc7 kV7 dc7 pm7 ct7 oc8 kV8 dc8 pm8 ct8 oc9 kV9 dc9 pm9 ct9 oc10 kV10 dc10 pm10 ct10 oc11 kV11 dc11 pm11 ct11 oc12 kV12 dc12 pm12 ct12 oc13 kV13 dc13 pm13 ct13 oc14 kV14 dc14 pm14 ct14 oc15 kV15 dc15 pm15 ct15 oc16 kV16 dc16 pm16 ct16 oc17 kV17 dc17 pm17 ct17 oc18 kV18 dc18 pm18 ct18 oc19 kV19 dc19 pm19 ct19 oc20 kV20 dc20 pm20 ct20 oc21 kV21 dc21 pm21 ct21 oc22 kV22 dc22 pm22 ct22 oc23 kV23 dc23 pm23 ct23 oc24 kV24 dc24 pm24 ct24 oc25 kV25 dc25 pm25 ct25 oc26 kV26 dc26 pm26 ct26 oc27 kV27 dc27 pm27 ct27 oc28 kV28 dc28 pm28 ct28 oc29 kV29 dc29 pm29 ct29 oc30 kV30 dc30 pm30 ct30 oc31 kV31 dc31 pm31 ct31 oc32 kV32 dc32 pm32 ct32 oc33 kV33 dc33 pm33 ct33 oc34 kV34 dc34 pm34 ct34 oc35 kV35 dc35 pm35 ct35 oc36 kV36 dc36 pm36 ct36 oc37 kV37 dc37 pm37 ct37 oc38 kV38 dc38 pm38 ct38 oc39 kV39 dc39 pm39 ct39 oc40 kV40 dc40 pm40 ct40 cd1 cd2 cd3 cd4 cd5 cd6 cd7 cd8 cd9 cd10 cd11 cd12 cd13 cd14 cd15 cd16 cd17 cd18 cd19 cd20 cd21 cd22 cd23 cd24 cd25 cd26 cd27 cd28 cd29 cd30 cd31 cd32 cd33 cd34 cd35 cd36 cd37 cd38 cd39 cd40  : Value} { iO iL : Array Value}  {nO nL : Nat}
    (gW : PySem.W.nsIn K mainGlobals "Walk" = some (some (.ref CW)))
    (gS : PySem.W.nsIn K mainGlobals "Scope" = some (some (.ref CS)))
    (a1 : PySem.W.nsIn K mainGlobals "declaration" = some (some (.ref f1)))
    (l1 : K.lookup f1 = some ⟨oc1, od1, .func (PySem.W.fnOf "declaration" "declaration" (defArgs sDecl) (defBody sDecl) (defScope sDecl) .none kV1 dc1 pm1 an1 cd1 ct1), sl1⟩)
    (c1 : PySem.W.codeIn K cd1 "declaration" = true)
    (k1 : PySem.W.keepIn K (.ref f1) = true)
    (a2 : PySem.W.nsIn K mainGlobals "listed" = some (some (.ref f2)))
    (l2 : K.lookup f2 = some ⟨oc2, od2, .func (PySem.W.fnOf "listed" "listed" (defArgs sListed) (defBody sListed) (defScope sListed) .none kV2 dc2 pm2 an2 cd2 ct2), sl2⟩)
    (c2 : PySem.W.codeIn K cd2 "listed" = true)
    (k2 : PySem.W.keepIn K (.ref f2) = true)
    (a3 : PySem.W.nsIn K mainGlobals "follow" = some (some (.ref f3)))
    (l3 : K.lookup f3 = some ⟨oc3, od3, .func (PySem.W.fnOf "follow" "follow" (defArgs sFollow) (defBody sFollow) (defScope sFollow) .none kV3 dc3 pm3 an3 cd3 ct3), sl3⟩)
    (c3 : PySem.W.codeIn K cd3 "follow" = true)
    (k3 : PySem.W.keepIn K (.ref f3) = true)
    (a4 : PySem.W.nsIn K mainGlobals "available" = some (some (.ref f4)))
    (l4 : K.lookup f4 = some ⟨oc4, od4, .func (PySem.W.fnOf "available" "available" (defArgs sAvail) (defBody sAvail) (defScope sAvail) .none kV4 dc4 pm4 an4 cd4 ct4), sl4⟩)
    (c4 : PySem.W.codeIn K cd4 "available" = true)
    (k4 : PySem.W.keepIn K (.ref f4) = true)
    (a5 : PySem.W.nsIn K mainGlobals "reach" = some (some (.ref f5)))
    (l5 : K.lookup f5 = some ⟨oc5, od5, .func (PySem.W.fnOf "reach" "reach" (defArgs sReach) (defBody sReach) (defScope sReach) .none kV5 dc5 pm5 an5 cd5 ct5), sl5⟩)
    (c5 : PySem.W.codeIn K cd5 "reach" = true)
    (k5 : PySem.W.keepIn K (.ref f5) = true)
    (a6 : PySem.W.nsIn K mainGlobals "_law_cell" = some (some (.ref f6)))
    (l6 : K.lookup f6 = some ⟨oc6, od6, .func (PySem.W.fnOf "_law_cell" "_law_cell" (defArgs sCell) (defBody sCell) (defScope sCell) .none kV6 dc6 pm6 an6 cd6 ct6), sl6⟩)
    (c6 : PySem.W.codeIn K cd6 "_law_cell" = true)
    (k6 : PySem.W.keepIn K (.ref f6) = true)
    (a7 : PySem.W.nsIn K mainGlobals "_law_digits" = some (some (.ref f7)))
    (l7 : K.lookup f7 = some ⟨oc7, od7, .func (PySem.W.fnOf "_law_digits" "_law_digits" (defArgs sDigits) (defBody sDigits) (defScope sDigits) .none kV7 dc7 pm7 an7 cd7 ct7), sl7⟩)
    (c7 : PySem.W.codeIn K cd7 "_law_digits" = true)
    (k7 : PySem.W.keepIn K (.ref f7) = true)
    (a8 : PySem.W.nsIn K mainGlobals "_law_draw" = some (some (.ref f8)))
    (l8 : K.lookup f8 = some ⟨oc8, od8, .func (PySem.W.fnOf "_law_draw" "_law_draw" (defArgs sDraw) (defBody sDraw) (defScope sDraw) .none kV8 dc8 pm8 an8 cd8 ct8), sl8⟩)
    (c8 : PySem.W.codeIn K cd8 "_law_draw" = true)
    (k8 : PySem.W.keepIn K (.ref f8) = true)
    (a9 : PySem.W.nsIn K mainGlobals "_law_atom" = some (some (.ref f9)))
    (l9 : K.lookup f9 = some ⟨oc9, od9, .func (PySem.W.fnOf "_law_atom" "_law_atom" (defArgs sAtom) (defBody sAtom) (defScope sAtom) .none kV9 dc9 pm9 an9 cd9 ct9), sl9⟩)
    (c9 : PySem.W.codeIn K cd9 "_law_atom" = true)
    (k9 : PySem.W.keepIn K (.ref f9) = true)
    (a10 : PySem.W.nsIn K mainGlobals "_law_tree" = some (some (.ref f10)))
    (l10 : K.lookup f10 = some ⟨oc10, od10, .func (PySem.W.fnOf "_law_tree" "_law_tree" (defArgs sTree) (defBody sTree) (defScope sTree) .none kV10 dc10 pm10 an10 cd10 ct10), sl10⟩)
    (c10 : PySem.W.codeIn K cd10 "_law_tree" = true)
    (k10 : PySem.W.keepIn K (.ref f10) = true)
    (a11 : PySem.W.nsIn K mainGlobals "_law_own" = some (some (.ref f11)))
    (l11 : K.lookup f11 = some ⟨oc11, od11, .func (PySem.W.fnOf "_law_own" "_law_own" (defArgs sOwn) (defBody sOwn) (defScope sOwn) .none kV11 dc11 pm11 an11 cd11 ct11), sl11⟩)
    (c11 : PySem.W.codeIn K cd11 "_law_own" = true)
    (k11 : PySem.W.keepIn K (.ref f11) = true)
    (a12 : PySem.W.nsIn K mainGlobals "_law_imports" = some (some (.ref f12)))
    (l12 : K.lookup f12 = some ⟨oc12, od12, .func (PySem.W.fnOf "_law_imports" "_law_imports" (defArgs sImports) (defBody sImports) (defScope sImports) .none kV12 dc12 pm12 an12 cd12 ct12), sl12⟩)
    (c12 : PySem.W.codeIn K cd12 "_law_imports" = true)
    (k12 : PySem.W.keepIn K (.ref f12) = true)
    (a13 : PySem.W.nsIn K mainGlobals "_law_usable" = some (some (.ref f13)))
    (l13 : K.lookup f13 = some ⟨oc13, od13, .func (PySem.W.fnOf "_law_usable" "_law_usable" (defArgs sUsable) (defBody sUsable) (defScope sUsable) .none kV13 dc13 pm13 an13 cd13 ct13), sl13⟩)
    (c13 : PySem.W.codeIn K cd13 "_law_usable" = true)
    (k13 : PySem.W.keepIn K (.ref f13) = true)
    (a14 : PySem.W.nsIn K mainGlobals "_law_calls" = some (some (.ref f14)))
    (l14 : K.lookup f14 = some ⟨oc14, od14, .func (PySem.W.fnOf "_law_calls" "_law_calls" (defArgs sCalls) (defBody sCalls) (defScope sCalls) .none kV14 dc14 pm14 an14 cd14 ct14), sl14⟩)
    (c14 : PySem.W.codeIn K cd14 "_law_calls" = true)
    (k14 : PySem.W.keepIn K (.ref f14) = true)
    (a15 : PySem.W.nsIn K mainGlobals "_law_module" = some (some (.ref f15)))
    (l15 : K.lookup f15 = some ⟨oc15, od15, .func (PySem.W.fnOf "_law_module" "_law_module" (defArgs sModule) (defBody sModule) (defScope sModule) .none kV15 dc15 pm15 an15 cd15 ct15), sl15⟩)
    (c15 : PySem.W.codeIn K cd15 "_law_module" = true)
    (k15 : PySem.W.keepIn K (.ref f15) = true)
    (a16 : PySem.W.nsIn K mainGlobals "_law_modules" = some (some (.ref f16)))
    (l16 : K.lookup f16 = some ⟨oc16, od16, .func (PySem.W.fnOf "_law_modules" "_law_modules" (defArgs sModules) (defBody sModules) (defScope sModules) .none kV16 dc16 pm16 an16 cd16 ct16), sl16⟩)
    (c16 : PySem.W.codeIn K cd16 "_law_modules" = true)
    (k16 : PySem.W.keepIn K (.ref f16) = true)
    (a17 : PySem.W.nsIn K mainGlobals "_law_exports" = some (some (.ref f17)))
    (l17 : K.lookup f17 = some ⟨oc17, od17, .func (PySem.W.fnOf "_law_exports" "_law_exports" (defArgs sExps) (defBody sExps) (defScope sExps) .none kV17 dc17 pm17 an17 cd17 ct17), sl17⟩)
    (c17 : PySem.W.codeIn K cd17 "_law_exports" = true)
    (k17 : PySem.W.keepIn K (.ref f17) = true)
    (a18 : PySem.W.nsIn K mainGlobals "_law_follow" = some (some (.ref f18)))
    (l18 : K.lookup f18 = some ⟨oc18, od18, .func (PySem.W.fnOf "_law_follow" "_law_follow" (defArgs sLFollow) (defBody sLFollow) (defScope sLFollow) .none kV18 dc18 pm18 an18 cd18 ct18), sl18⟩)
    (c18 : PySem.W.codeIn K cd18 "_law_follow" = true)
    (k18 : PySem.W.keepIn K (.ref f18) = true)
    (a19 : PySem.W.nsIn K mainGlobals "_law_leads" = some (some (.ref f19)))
    (l19 : K.lookup f19 = some ⟨oc19, od19, .func (PySem.W.fnOf "_law_leads" "_law_leads" (defArgs sLeads) (defBody sLeads) (defScope sLeads) .none kV19 dc19 pm19 an19 cd19 ct19), sl19⟩)
    (c19 : PySem.W.codeIn K cd19 "_law_leads" = true)
    (k19 : PySem.W.keepIn K (.ref f19) = true)
    (a20 : PySem.W.nsIn K mainGlobals "_law_declared" = some (some (.ref f20)))
    (l20 : K.lookup f20 = some ⟨oc20, od20, .func (PySem.W.fnOf "_law_declared" "_law_declared" (defArgs sLDecl) (defBody sLDecl) (defScope sLDecl) .none kV20 dc20 pm20 an20 cd20 ct20), sl20⟩)
    (c20 : PySem.W.codeIn K cd20 "_law_declared" = true)
    (k20 : PySem.W.keepIn K (.ref f20) = true)
    (a21 : PySem.W.nsIn K mainGlobals "parts_of" = some (some (.ref f21)))
    (l21 : K.lookup f21 = some ⟨oc21, od21, .func (PySem.W.fnOf "parts_of" "parts_of" (defArgs sParts) (defBody sParts) (defScope sParts) .none kV21 dc21 pm21 an21 cd21 ct21), sl21⟩)
    (c21 : PySem.W.codeIn K cd21 "parts_of" = true)
    (k21 : PySem.W.keepIn K (.ref f21) = true)
    (a22 : PySem.W.nsIn K mainGlobals "fault_of_listing" = some (some (.ref f22)))
    (l22 : K.lookup f22 = some ⟨oc22, od22, .func (PySem.W.fnOf "fault_of_listing" "fault_of_listing" (defArgs sFLst) (defBody sFLst) (defScope sFLst) .none kV22 dc22 pm22 an22 cd22 ct22), sl22⟩)
    (c22 : PySem.W.codeIn K cd22 "fault_of_listing" = true)
    (k22 : PySem.W.keepIn K (.ref f22) = true)
    (a23 : PySem.W.nsIn K mainGlobals "fault_of_line" = some (some (.ref f23)))
    (l23 : K.lookup f23 = some ⟨oc23, od23, .func (PySem.W.fnOf "fault_of_line" "fault_of_line" (defArgs sFLine) (defBody sFLine) (defScope sFLine) .none kV23 dc23 pm23 an23 cd23 ct23), sl23⟩)
    (c23 : PySem.W.codeIn K cd23 "fault_of_line" = true)
    (k23 : PySem.W.keepIn K (.ref f23) = true)
    (a24 : PySem.W.nsIn K mainGlobals "check_names" = some (some (.ref f24)))
    (l24 : K.lookup f24 = some ⟨oc24, od24, .func (PySem.W.fnOf "check_names" "check_names" (defArgs sChkN) (defBody sChkN) (defScope sChkN) .none kV24 dc24 pm24 an24 cd24 ct24), sl24⟩)
    (c24 : PySem.W.codeIn K cd24 "check_names" = true)
    (k24 : PySem.W.keepIn K (.ref f24) = true)
    (a25 : PySem.W.nsIn K mainGlobals "_law_use_fault" = some (some (.ref f25)))
    (l25 : K.lookup f25 = some ⟨oc25, od25, .func (PySem.W.fnOf "_law_use_fault" "_law_use_fault" (defArgs sUse) (defBody sUse) (defScope sUse) .none kV25 dc25 pm25 an25 cd25 ct25), sl25⟩)
    (c25 : PySem.W.codeIn K cd25 "_law_use_fault" = true)
    (k25 : PySem.W.keepIn K (.ref f25) = true)
    (a26 : PySem.W.nsIn K mainGlobals "_law_tree_fault" = some (some (.ref f26)))
    (l26 : K.lookup f26 = some ⟨oc26, od26, .func (PySem.W.fnOf "_law_tree_fault" "_law_tree_fault" (defArgs sLTree) (defBody sLTree) (defScope sLTree) .none kV26 dc26 pm26 an26 cd26 ct26), sl26⟩)
    (c26 : PySem.W.codeIn K cd26 "_law_tree_fault" = true)
    (k26 : PySem.W.keepIn K (.ref f26) = true)
    (a27 : PySem.W.nsIn K mainGlobals "_law_line_fault" = some (some (.ref f27)))
    (l27 : K.lookup f27 = some ⟨oc27, od27, .func (PySem.W.fnOf "_law_line_fault" "_law_line_fault" (defArgs sLLine) (defBody sLLine) (defScope sLLine) .none kV27 dc27 pm27 an27 cd27 ct27), sl27⟩)
    (c27 : PySem.W.codeIn K cd27 "_law_line_fault" = true)
    (k27 : PySem.W.keepIn K (.ref f27) = true)
    (a28 : PySem.W.nsIn K mainGlobals "_law_names_fault" = some (some (.ref f28)))
    (l28 : K.lookup f28 = some ⟨oc28, od28, .func (PySem.W.fnOf "_law_names_fault" "_law_names_fault" (defArgs sLNames) (defBody sLNames) (defScope sLNames) .none kV28 dc28 pm28 an28 cd28 ct28), sl28⟩)
    (c28 : PySem.W.codeIn K cd28 "_law_names_fault" = true)
    (k28 : PySem.W.keepIn K (.ref f28) = true)
    (a29 : PySem.W.nsIn K mainGlobals "_law_wrong_tree" = some (some (.ref f29)))
    (l29 : K.lookup f29 = some ⟨oc29, od29, .func (PySem.W.fnOf "_law_wrong_tree" "_law_wrong_tree" (defArgs sWT) (defBody sWT) (defScope sWT) .none kV29 dc29 pm29 an29 cd29 ct29), sl29⟩)
    (c29 : PySem.W.codeIn K cd29 "_law_wrong_tree" = true)
    (k29 : PySem.W.keepIn K (.ref f29) = true)
    (a30 : PySem.W.nsIn K mainGlobals "_law_wrong_line" = some (some (.ref f30)))
    (l30 : K.lookup f30 = some ⟨oc30, od30, .func (PySem.W.fnOf "_law_wrong_line" "_law_wrong_line" (defArgs sWL) (defBody sWL) (defScope sWL) .none kV30 dc30 pm30 an30 cd30 ct30), sl30⟩)
    (c30 : PySem.W.codeIn K cd30 "_law_wrong_line" = true)
    (k30 : PySem.W.keepIn K (.ref f30) = true)
    (a31 : PySem.W.nsIn K mainGlobals "_law_alike" = some (some (.ref f31)))
    (l31 : K.lookup f31 = some ⟨oc31, od31, .func (PySem.W.fnOf "_law_alike" "_law_alike" (defArgs sAlike) (defBody sAlike) (defScope sAlike) .none kV31 dc31 pm31 an31 cd31 ct31), sl31⟩)
    (c31 : PySem.W.codeIn K cd31 "_law_alike" = true)
    (k31 : PySem.W.keepIn K (.ref f31) = true)
    (a32 : PySem.W.nsIn K mainGlobals "law" = some (some (.ref f32)))
    (l32 : K.lookup f32 = some ⟨oc32, od32, .func (PySem.W.fnOf "law" "law" (defArgs sLaw) (defBody sLaw) (defScope sLaw) .none kV32 dc32 pm32 an32 cd32 ct32), sl32⟩)
    (c32 : PySem.W.codeIn K cd32 "law" = true)
    (k32 : PySem.W.keepIn K (.ref f32) = true)
    (a33 : PySem.W.findIn K (.ref CW) "__init__" = some (some (.ref f33)))
    (i33 : PySem.W.isFn K (.ref f33) = true)
    (l33 : K.lookup f33 = some ⟨oc33, od33, .func (PySem.W.fnOf "__init__" "Walk.__init__" (defArgs mWInit) (defBody mWInit) (defScope mWInit) .none kV33 dc33 pm33 an33 cd33 ct33), sl33⟩)
    (c33 : PySem.W.codeIn K cd33 "Walk.__init__" = true)
    (k33 : PySem.W.keepIn K (.ref f33) = true)
    (a34 : PySem.W.findIn K (.ref CW) "visit" = some (some (.ref f34)))
    (i34 : PySem.W.isFn K (.ref f34) = true)
    (l34 : K.lookup f34 = some ⟨oc34, od34, .func (PySem.W.fnOf "visit" "Walk.visit" (defArgs mVisit) (defBody mVisit) (defScope mVisit) .none kV34 dc34 pm34 an34 cd34 ct34), sl34⟩)
    (c34 : PySem.W.codeIn K cd34 "Walk.visit" = true)
    (k34 : PySem.W.keepIn K (.ref f34) = true)
    (a35 : PySem.W.findIn K (.ref CS) "__init__" = some (some (.ref f35)))
    (i35 : PySem.W.isFn K (.ref f35) = true)
    (l35 : K.lookup f35 = some ⟨oc35, od35, .func (PySem.W.fnOf "__init__" "Scope.__init__" (defArgs mSInit) (defBody mSInit) (defScope mSInit) .none kV35 dc35 pm35 an35 cd35 ct35), sl35⟩)
    (c35 : PySem.W.codeIn K cd35 "Scope.__init__" = true)
    (k35 : PySem.W.keepIn K (.ref f35) = true)
    (a36 : PySem.W.findIn K (.ref CS) "fault" = some (some (.ref f36)))
    (i36 : PySem.W.isFn K (.ref f36) = true)
    (l36 : K.lookup f36 = some ⟨oc36, od36, .func (PySem.W.fnOf "fault" "Scope.fault" (defArgs mFault) (defBody mFault) (defScope mFault) .none kV36 dc36 pm36 an36 cd36 ct36), sl36⟩)
    (c36 : PySem.W.codeIn K cd36 "Scope.fault" = true)
    (k36 : PySem.W.keepIn K (.ref f36) = true)
    (a37 : PySem.W.findIn K (.ref CS) "fault_at_top" = some (some (.ref f37)))
    (i37 : PySem.W.isFn K (.ref f37) = true)
    (l37 : K.lookup f37 = some ⟨oc37, od37, .func (PySem.W.fnOf "fault_at_top" "Scope.fault_at_top" (defArgs mTop) (defBody mTop) (defScope mTop) .none kV37 dc37 pm37 an37 cd37 ct37), sl37⟩)
    (c37 : PySem.W.codeIn K cd37 "Scope.fault_at_top" = true)
    (k37 : PySem.W.keepIn K (.ref f37) = true)
    (a38 : PySem.W.findIn K (.ref CS) "meaning" = some (some (.ref f38)))
    (i38 : PySem.W.isFn K (.ref f38) = true)
    (l38 : K.lookup f38 = some ⟨oc38, od38, .func (PySem.W.fnOf "meaning" "Scope.meaning" (defArgs mMean) (defBody mMean) (defScope mMean) .none kV38 dc38 pm38 an38 cd38 ct38), sl38⟩)
    (c38 : PySem.W.codeIn K cd38 "Scope.meaning" = true)
    (k38 : PySem.W.keepIn K (.ref f38) = true)
    (a39 : PySem.W.findIn K (.ref CS) "fault_of_variable" = some (some (.ref f39)))
    (i39 : PySem.W.isFn K (.ref f39) = true)
    (l39 : K.lookup f39 = some ⟨oc39, od39, .func (PySem.W.fnOf "fault_of_variable" "Scope.fault_of_variable" (defArgs mVar) (defBody mVar) (defScope mVar) .none kV39 dc39 pm39 an39 cd39 ct39), sl39⟩)
    (c39 : PySem.W.codeIn K cd39 "Scope.fault_of_variable" = true)
    (k39 : PySem.W.keepIn K (.ref f39) = true)
    (a40 : PySem.W.findIn K (.ref CS) "fault_of_call" = some (some (.ref f40)))
    (i40 : PySem.W.isFn K (.ref f40) = true)
    (l40 : K.lookup f40 = some ⟨oc40, od40, .func (PySem.W.fnOf "fault_of_call" "Scope.fault_of_call" (defArgs mCall) (defBody mCall) (defScope mCall) .none kV40 dc40 pm40 an40 cd40 ct40), sl40⟩)
    (c40 : PySem.W.codeIn K cd40 "Scope.fault_of_call" = true)
    (k40 : PySem.W.keepIn K (.ref f40) = true)
    (pgW : PySem.W.plainGet K CW Str.empty = true)
    (hdW : PySem.W.hasDictIn K CW = true)
    (poW : PySem.W.plainOver K CW = true)
    (saW : PySem.W.findIn K (.ref CW) "__setattr__" = some (some (.builtin "object.__setattr__")))
    (mkW : PySem.W.makesIn K CW = true)
    (kcW : PySem.W.keepIn K (.ref CW) = true)
    (naW0 : PySem.W.findIn K (.ref CW) "modules" = some none)
    (naW1 : PySem.W.findIn K (.ref CW) "visited" = some none)
    (naW2 : PySem.W.findIn K (.ref CW) "completed" = some none)
    (pgS : PySem.W.plainGet K CS Str.empty = true)
    (hdS : PySem.W.hasDictIn K CS = true)
    (poS : PySem.W.plainOver K CS = true)
    (saS : PySem.W.findIn K (.ref CS) "__setattr__" = some (some (.builtin "object.__setattr__")))
    (mkS : PySem.W.makesIn K CS = true)
    (kcS : PySem.W.keepIn K (.ref CS) = true)
    (naS0 : PySem.W.findIn K (.ref CS) "modules" = some none)
    (naS1 : PySem.W.findIn K (.ref CS) "module" = some none)
    (naS2 : PySem.W.findIn K (.ref CS) "parameters" = some none)
    (z_len : PySem.W.nsIn K mainGlobals "len" = some none)
    (z_range : PySem.W.nsIn K mainGlobals "range" = some none)
    (z_bint : PySem.W.nsIn K mainGlobals "int" = some none)
    (z_blist : PySem.W.nsIn K mainGlobals "list" = some none)
    (z_repr : PySem.W.nsIn K mainGlobals "repr" = some none)
    (z_btuple : PySem.W.nsIn K mainGlobals "tuple" = some none)
    (z_max : PySem.W.nsIn K mainGlobals "max" = some none)
    (uOA : PySem.W.nsIn K mainGlobals "OWN" = some (some (.ref rO)))
    (uOL : K.lookup rO = some ⟨.type "tuple", dO, .seq iO nO, sO⟩)
    (uOZ : iO.size ≤ sizeLine)
    (uOV : iO.toList.map strOf = (["let", "keep", "fn"] : List Str).map some)
    (uLA : PySem.W.nsIn K mainGlobals "LISTING" = some (some (.ref rL)))
    (uLL : K.lookup rL = some ⟨.type "tuple", dL, .seq iL nL, sL⟩)
    (uLZ : iL.size ≤ sizeLine)
    (uLV : iL.toList.map strOf = (["import", "export"] : List Str).map some) :
    LawG l w K CX0 21 63 "script" mg fa h := by
  have g : ∀ {x : Str} {v : Value}, PySem.W.nsIn K mainGlobals x = some (some v) → mg x = some v := fun e => PySem.W.mg_of X G e
  have gz : ∀ {x : Str}, PySem.W.nsIn K mainGlobals x = some none → mg x = none := fun e => PySem.W.mg_none_of X G e
  have e := hfa.symm.trans (g a32)
  cases e
  have F1 := fun_mk (st := sDecl) l1 c1 k1
  have b1 := F1.binds (ps := ["modules", "binding"]) fun _ _ _ _ _ _ us hl => match us, hl with | [_, _], _ => rfl
  have F2 := fun_mk (st := sListed) l2 c2 k2
  have b2 := F2.binds (ps := ["modules", "word", "place"]) fun _ _ _ _ _ _ us hl => match us, hl with | [_, _, _], _ => rfl
  have F3 := fun_mk (st := sFollow) l3 c3 k3
  have b3 := F3.binds (ps := ["modules", "module", "name"]) fun _ _ _ _ _ _ us hl => match us, hl with | [_, _, _], _ => rfl
  have F4 := fun_mk (st := sAvail) l4 c4 k4
  have b4 := F4.binds (ps := ["modules", "module", "name"]) fun _ _ _ _ _ _ us hl => match us, hl with | [_, _, _], _ => rfl
  have F5 := fun_mk (st := sReach) l5 c5 k5
  have b5 := F5.binds (ps := ["modules", "entries"]) fun _ _ _ _ _ _ us hl => match us, hl with | [_, _], _ => rfl
  have F6 := fun_mk (st := sCell) l6 c6 k6
  have b6 := F6.binds (ps := ["script", "k"]) fun _ _ _ _ _ _ us hl => match us, hl with | [_, _], _ => rfl
  have F7 := fun_mk (st := sDigits) l7 c7 k7
  have b7 := F7.binds (ps := ["script", "first", "last"]) fun _ _ _ _ _ _ us hl => match us, hl with | [_, _, _], _ => rfl
  have F8 := fun_mk (st := sDraw) l8 c8 k8
  have b8 := F8.binds (ps := ["box", "many"]) fun _ _ _ _ _ _ us hl => match us, hl with | [_, _], _ => rfl
  have F9 := fun_mk (st := sAtom) l9 c9 k9
  have b9 := F9.binds (ps := ["box", "names"]) fun _ _ _ _ _ _ us hl => match us, hl with | [_, _], _ => rfl
  have F10 := fun_mk (st := sTree) l10 c10 k10
  have b10 := F10.binds (ps := ["box", "names", "calls", "depth"]) fun _ _ _ _ _ _ us hl => match us, hl with | [_, _, _, _], _ => rfl
  have F11 := fun_mk (st := sOwn) l11 c11 k11
  have b11 := F11.binds (ps := ["name"]) fun _ _ _ _ _ _ us hl => match us, hl with | [_], _ => rfl
  have F12 := fun_mk (st := sImports) l12 c12 k12
  have b12 := F12.binds (ps := ["box", "name", "others"]) fun _ _ _ _ _ _ us hl => match us, hl with | [_, _, _], _ => rfl
  have F13 := fun_mk (st := sUsable) l13 c13 k13
  have b13 := F13.binds (ps := ["lines", "name", "wanted"]) fun _ _ _ _ _ _ us hl => match us, hl with | [_, _, _], _ => rfl
  have F14 := fun_mk (st := sCalls) l14 c14 k14
  have b14 := F14.binds (ps := ["lines", "name"]) fun _ _ _ _ _ _ us hl => match us, hl with | [_, _], _ => rfl
  have F15 := fun_mk (st := sModule) l15 c15 k15
  have b15 := F15.binds (ps := ["box", "name", "others"]) fun _ _ _ _ _ _ us hl => match us, hl with | [_, _, _], _ => rfl
  have F16 := fun_mk (st := sModules) l16 c16 k16
  have b16 := F16.binds (ps := ["box", "names"]) fun _ _ _ _ _ _ us hl => match us, hl with | [_, _], _ => rfl
  have F17 := fun_mk (st := sExps) l17 c17 k17
  have b17 := F17.binds (ps := ["lines"]) fun _ _ _ _ _ _ us hl => match us, hl with | [_], _ => rfl
  have F18 := fun_mk (st := sLFollow) l18 c18 k18
  have b18 := F18.binds (ps := ["modules", "module", "name"]) fun _ _ _ _ _ _ us hl => match us, hl with | [_, _, _], _ => rfl
  have F19 := fun_mk (st := sLeads) l19 c19 k19
  have b19 := F19.binds (ps := ["modules", "module", "name"]) fun _ _ _ _ _ _ us hl => match us, hl with | [_, _, _], _ => rfl
  have F20 := fun_mk (st := sLDecl) l20 c20 k20
  have b20 := F20.binds (ps := ["modules", "binding"]) fun _ _ _ _ _ _ us hl => match us, hl with | [_, _], _ => rfl
  have F21 := fun_mk (st := sParts) l21 c21 k21
  have b21 := F21.binds (ps := ["tree"]) fun _ _ _ _ _ _ us hl => match us, hl with | [_], _ => rfl
  have F22 := fun_mk (st := sFLst) l22 c22 k22
  have b22 := F22.binds (ps := ["modules", "line"]) fun _ _ _ _ _ _ us hl => match us, hl with | [_, _], _ => rfl
  have F23 := fun_mk (st := sFLine) l23 c23 k23
  have b23 := F23.binds (ps := ["modules", "module", "line"]) fun _ _ _ _ _ _ us hl => match us, hl with | [_, _, _], _ => rfl
  have F24 := fun_mk (st := sChkN) l24 c24 k24
  have b24 := F24.binds (ps := ["modules", "order"]) fun _ _ _ _ _ _ us hl => match us, hl with | [_, _], _ => rfl
  have F25 := fun_mk (st := sUse) l25 c25 k25
  have b25 := F25.binds (ps := ["modules", "module", "tree", "inner"]) fun _ _ _ _ _ _ us hl => match us, hl with | [_, _, _, _], _ => rfl
  have F26 := fun_mk (st := sLTree) l26 c26 k26
  have b26 := F26.binds (ps := ["modules", "module", "tree", "inner"]) fun _ _ _ _ _ _ us hl => match us, hl with | [_, _, _, _], _ => rfl
  have F27 := fun_mk (st := sLLine) l27 c27 k27
  have b27 := F27.binds (ps := ["modules", "module", "line"]) fun _ _ _ _ _ _ us hl => match us, hl with | [_, _, _], _ => rfl
  have F28 := fun_mk (st := sLNames) l28 c28 k28
  have b28 := F28.binds (ps := ["modules", "order"]) fun _ _ _ _ _ _ us hl => match us, hl with | [_, _], _ => rfl
  have F29 := fun_mk (st := sWT) l29 c29 k29
  have b29 := F29.binds (ps := ["box", "name"]) fun _ _ _ _ _ _ us hl => match us, hl with | [_, _], _ => rfl
  have F30 := fun_mk (st := sWL) l30 c30 k30
  have b30 := F30.binds (ps := ["box", "name"]) fun _ _ _ _ _ _ us hl => match us, hl with | [_, _], _ => rfl
  have F31 := fun_mk (st := sAlike) l31 c31 k31
  have b31 := F31.binds (ps := ["one", "two"]) fun _ _ _ _ _ _ us hl => match us, hl with | [_, _], _ => rfl
  have F32 := fun_mk (st := sLaw) l32 c32 k32
  have F33 := fun_mk (st := mWInit) l33 c33 k33
  have b33 := F33.binds (ps := ["self", "modules"]) fun _ _ _ _ _ _ us hl => match us, hl with | [_, _], _ => rfl
  have F34 := fun_mk (st := mVisit) l34 c34 k34
  have b34 := F34.binds (ps := ["self", "module"]) fun _ _ _ _ _ _ us hl => match us, hl with | [_, _], _ => rfl
  have F35 := fun_mk (st := mSInit) l35 c35 k35
  have b35 := F35.binds (ps := ["self", "modules", "module", "parameters"]) fun _ _ _ _ _ _ us hl => match us, hl with | [_, _, _, _], _ => rfl
  have F36 := fun_mk (st := mFault) l36 c36 k36
  have b36 := F36.binds (ps := ["self", "tree"]) fun _ _ _ _ _ _ us hl => match us, hl with | [_, _], _ => rfl
  have F37 := fun_mk (st := mTop) l37 c37 k37
  have b37 := F37.binds (ps := ["self", "tree"]) fun _ _ _ _ _ _ us hl => match us, hl with | [_, _], _ => rfl
  have F38 := fun_mk (st := mMean) l38 c38 k38
  have b38 := F38.binds (ps := ["self", "name"]) fun _ _ _ _ _ _ us hl => match us, hl with | [_, _], _ => rfl
  have F39 := fun_mk (st := mVar) l39 c39 k39
  have b39 := F39.binds (ps := ["self", "name", "kinds"]) fun _ _ _ _ _ _ us hl => match us, hl with | [_, _, _], _ => rfl
  have F40 := fun_mk (st := mCall) l40 c40 k40
  have b40 := F40.binds (ps := ["self", "name", "many"]) fun _ _ _ _ _ _ us hl => match us, hl with | [_, _, _], _ => rfl
  refine ⟨PySem.W.fnOf "law" "law" (defArgs sLaw) (defBody sLaw) (defScope sLaw) .none kV32 dc32 pm32 an32 cd32 ct32, [], spLaw K, fun p hp => ?_, fun p hp => ?_, fun p hp => ?_, fun s u => .of_eq rfl, fun H a ns hl _ hT hS => ?_, fun base _ _ hTB => ?_⟩
  · cases hp
  · cases hp
  · cases hp
  · refine ⟨a, ns, rfl, hS, fun _ => rfl⟩
  ·
    have T : Txt K mg := ⟨gz z_len, gz z_range, gz z_bint, gz z_blist, gz z_repr⟩
    have T2 : Txt2 mg := ⟨gz z_btuple, gz z_max⟩
    have kO : ∀ H, SqT K H rO OWNv := fun H => .inr ⟨_, iO, nO, uOL, rfl, rfl, uOZ, vals_strs ["let", "keep", "fn"] _ uOV⟩
    have kL : ∀ H, SqT K H rL LISTv := fun H => .inr ⟨_, iL, nL, uLL, rfl, rfl, uLZ, vals_strs ["import", "export"] _ uLV⟩
    have W : TxW K mg CW := ⟨⟨pgW, hdW, poW, saW⟩, naW0, naW1, naW2, g gW⟩
    have oCell := ok_cell (P := l.prog) (w := w) (base := base) F6 T
    have oDraw : FO l.prog w K mg base CX0 1 "_law_draw" ["box", "many"] spDraw f8 _ := ⟨g a8, k8, b8, ok_draw F8 T⟩
    have oDig := ok_digits F7 T oCell (g a6) k6 b6
    have oAlk := ok_alk (P := l.prog) (w := w) (base := base) F31 T
    have oAtom := ok_latom F9 T oDraw
    have oTree := ok_tree F10 T T2 oDraw ⟨g a9, k9, b9, oAtom⟩ (g a10) k10 b10 3
    have oOwn := ok_own (P := l.prog) (w := w) (base := base) (mg := mg) F11
    have oImp := ok_imports F12 T T2 oDraw ⟨g a11, k11, b11, oOwn⟩
    have oUs := ok_usable F13 T ⟨g a11, k11, b11, oOwn⟩
    have oCalls := ok_calls (P := l.prog) (w := w) (base := base) F14 T
    have oMod := ok_module F15 T T2 oDraw ⟨g a12, k12, b12, oImp⟩ ⟨g a13, k13, b13, oUs⟩ ⟨g a14, k14, b14, oCalls⟩ ⟨g a10, k10, b10, oTree⟩
    have oMods := ok_modules F16 ⟨g a15, k15, b15, oMod.mono (by decide)⟩
    have oDecl := ok_decl (P := l.prog) (w := w) (base := base) F1 (g uOA) kO
    have oListed := ok_listed (P := l.prog) (w := w) (base := base) (mg := mg) F2
    have oFol := ok_follow F3 ⟨g a1, k1, b1, oDecl⟩ ⟨g a2, k2, b2, oListed⟩
    have oAv := ok_avail F4 ⟨g a1, k1, b1, oDecl⟩ ⟨g a2, k2, b2, oListed⟩ ⟨g a3, k3, b3, oFol⟩
    have oLD := ok_ldecl (P := l.prog) (w := w) (base := base) (mg := mg) F20
    have oEx := ok_exps (P := l.prog) (w := w) (base := base) (mg := mg) F17
    have oLF := ok_lfollow F18 T ⟨g a17, k17, b17, oEx⟩
    have oLL := ok_leads F19 ⟨g a18, k18, b18, oLF⟩
    have oWV := ok_wvis (P := l.prog) (w := w) (base := base) F34 W (g uLA) kL ⟨a34, i34, k34⟩ b34 5
    have oReach := ok_reach F5 T2 W ⟨mkW, a33, i33, kcW⟩ b33 (ok_winit F33 W) ⟨a34, i34, k34⟩ b34 oWV
    have SC : TxS K mg CS := ⟨⟨pgS, hdS, poS, saS⟩, naS0, naS1, naS2, g gS⟩
    have oPa := ok_parts (P := l.prog) (w := w) (base := base) (mg := mg) F21
    have oSI := ok_sinit (P := l.prog) (w := w) (base := base) F35 SC
    have oMean := ok_mean F38 SC ⟨g a4, k4, b4, oAv⟩ ⟨g a1, k1, b1, oDecl⟩
    have mMean : MO l.prog w K mg base CS 4 "meaning" ["self", "name"] (spMean CS) f38 _ := ⟨⟨a38, i38, k38⟩, b38, oMean⟩
    have oVar := ok_var F39 SC mMean
    have oCF := ok_callF F40 T SC mMean
    have oTop := ok_top F37 T SC ⟨⟨a39, i39, k39⟩, b39, oVar⟩ ⟨⟨a40, i40, k40⟩, b40, oCF⟩
    have oFt := ok_fault F36 SC ⟨a36, i36, k36⟩ b36 ⟨⟨a37, i37, k37⟩, b37, oTop⟩ ⟨g a21, k21, b21, oPa⟩ 12
    have oFL := ok_flst (P := l.prog) (w := w) (base := base) (mg := mg) F22 ⟨g a3, k3, b3, oFol⟩
    have oFLi := ok_fline F23 SC (g uLA) kL ⟨g a22, k22, b22, oFL⟩ ⟨mkS, a35, i35, kcS⟩ b35 oSI ⟨⟨a36, i36, k36⟩, b36, oFt⟩
    have oChk := ok_chkN F24 ⟨g a23, k23, b23, oFLi⟩
    have oUse := ok_use F25 T ⟨g a19, k19, b19, oLL⟩ ⟨g a20, k20, b20, oLD⟩
    have oLT := ok_ltree F26 T (g a26) k26 b26 ⟨g a25, k25, b25, oUse⟩ 12
    have oLLi := ok_lline F27 ⟨g a18, k18, b18, oLF⟩ ⟨g a26, k26, b26, oLT⟩
    have oLN := ok_lnames F28 ⟨g a27, k27, b27, oLLi⟩
    have oWT := ok_wtree F29 oDraw
    have oWL := ok_wline F30 oDraw ⟨g a29, k29, b29, oWT⟩
    exact ok_law6 F32 T T2 ⟨g a7, k7, b7, oDig⟩ oDraw ⟨g a16, k16, b16, oMods⟩ ⟨g a30, k30, b30, oWL⟩ ⟨g a5, k5, b5, oReach⟩ ⟨g a24, k24, b24, oChk⟩ ⟨g a28, k28, b28, oLN⟩ oAlk (g a31) k31 b31
end K3

open PySem PySem.W PyProof.Rows
set_option maxRecDepth 100000 in
set_option maxHeartbeats 0 in
theorem PySem.Challenge.cw_sameasnew_k06_first_fault_of_names_holds : PySem.Challenge.rw_sameasnew_k06_first_fault_of_names.Holds := by
  w_on; o_law; k_head; (case hw => w_witness2)
  k_fill
  refine GD.walk_ofG (l := PySem.Challenge.rw_sameasnew_k06_first_fault_of_names) (n := 63) (k := 21) (x := "script") (CX := fun _ => L2.CX0) rfl (by decide) rfl ⟨rfl, by decide, by decide⟩ (fun w h Y => PySem.W.kIn_of Y) ?F (fun _ _ _ _ _ h => h)
  case F =>
    intro w mg fa h Y KX G hmg TB
    refine' K3.end_at KX G hmg TB ?gW ?gS ?a1 ?l1 ?c1 ?k1 ?a2 ?l2 ?c2 ?k2 ?a3 ?l3 ?c3 ?k3 ?a4 ?l4 ?c4 ?k4 ?a5 ?l5 ?c5 ?k5 ?a6 ?l6 ?c6 ?k6 ?a7 ?l7 ?c7 ?k7 ?a8 ?l8 ?c8 ?k8 ?a9 ?l9 ?c9 ?k9 ?a10 ?l10 ?c10 ?k10 ?a11 ?l11 ?c11 ?k11 ?a12 ?l12 ?c12 ?k12 ?a13 ?l13 ?c13 ?k13 ?a14 ?l14 ?c14 ?k14 ?a15 ?l15 ?c15 ?k15 ?a16 ?l16 ?c16 ?k16 ?a17 ?l17 ?c17 ?k17 ?a18 ?l18 ?c18 ?k18 ?a19 ?l19 ?c19 ?k19 ?a20 ?l20 ?c20 ?k20 ?a21 ?l21 ?c21 ?k21 ?a22 ?l22 ?c22 ?k22 ?a23 ?l23 ?c23 ?k23 ?a24 ?l24 ?c24 ?k24 ?a25 ?l25 ?c25 ?k25 ?a26 ?l26 ?c26 ?k26 ?a27 ?l27 ?c27 ?k27 ?a28 ?l28 ?c28 ?k28 ?a29 ?l29 ?c29 ?k29 ?a30 ?l30 ?c30 ?k30 ?a31 ?l31 ?c31 ?k31 ?a32 ?l32 ?c32 ?k32 ?a33 ?i33 ?l33 ?c33 ?k33 ?a34 ?i34 ?l34 ?c34 ?k34 ?a35 ?i35 ?l35 ?c35 ?k35 ?a36 ?i36 ?l36 ?c36 ?k36 ?a37 ?i37 ?l37 ?c37 ?k37 ?a38 ?i38 ?l38 ?c38 ?k38 ?a39 ?i39 ?l39 ?c39 ?k39 ?a40 ?i40 ?l40 ?c40 ?k40 ?pgW ?hdW ?poW ?saW ?mkW ?kcW ?naW0 ?naW1 ?naW2 ?pgS ?hdS ?poS ?saS ?mkS ?kcS ?naS0 ?naS1 ?naS2 ?z_len ?z_range ?z_bint ?z_blist ?z_repr ?z_btuple ?z_max ?uOA ?uOL ?uOZ ?uOV ?uLA ?uLL ?uLZ ?uLV
    (case gW => k_is)
    (case gS => k_is)
    (case a1 => k_is)
    (case l1 => k_is)
    (case c1 => k_is)
    (case k1 => k_is)
    (case a2 => k_is)
    (case l2 => k_is)
    (case c2 => k_is)
    (case k2 => k_is)
    (case a3 => k_is)
    (case l3 => k_is)
    (case c3 => k_is)
    (case k3 => k_is)
    (case a4 => k_is)
    (case l4 => k_is)
    (case c4 => k_is)
    (case k4 => k_is)
    (case a5 => k_is)
    (case l5 => k_is)
    (case c5 => k_is)
    (case k5 => k_is)
    (case a6 => k_is)
    (case l6 => k_is)
    (case c6 => k_is)
    (case k6 => k_is)
    (case a7 => k_is)
    (case l7 => k_is)
    (case c7 => k_is)
    (case k7 => k_is)
    (case a8 => k_is)
    (case l8 => k_is)
    (case c8 => k_is)
    (case k8 => k_is)
    (case a9 => k_is)
    (case l9 => k_is)
    (case c9 => k_is)
    (case k9 => k_is)
    (case a10 => k_is)
    (case l10 => k_is)
    (case c10 => k_is)
    (case k10 => k_is)
    (case a11 => k_is)
    (case l11 => k_is)
    (case c11 => k_is)
    (case k11 => k_is)
    (case a12 => k_is)
    (case l12 => k_is)
    (case c12 => k_is)
    (case k12 => k_is)
    (case a13 => k_is)
    (case l13 => k_is)
    (case c13 => k_is)
    (case k13 => k_is)
    (case a14 => k_is)
    (case l14 => k_is)
    (case c14 => k_is)
    (case k14 => k_is)
    (case a15 => k_is)
    (case l15 => k_is)
    (case c15 => k_is)
    (case k15 => k_is)
    (case a16 => k_is)
    (case l16 => k_is)
    (case c16 => k_is)
    (case k16 => k_is)
    (case a17 => k_is)
    (case l17 => k_is)
    (case c17 => k_is)
    (case k17 => k_is)
    (case a18 => k_is)
    (case l18 => k_is)
    (case c18 => k_is)
    (case k18 => k_is)
    (case a19 => k_is)
    (case l19 => k_is)
    (case c19 => k_is)
    (case k19 => k_is)
    (case a20 => k_is)
    (case l20 => k_is)
    (case c20 => k_is)
    (case k20 => k_is)
    (case a21 => k_is)
    (case l21 => k_is)
    (case c21 => k_is)
    (case k21 => k_is)
    (case a22 => k_is)
    (case l22 => k_is)
    (case c22 => k_is)
    (case k22 => k_is)
    (case a23 => k_is)
    (case l23 => k_is)
    (case c23 => k_is)
    (case k23 => k_is)
    (case a24 => k_is)
    (case l24 => k_is)
    (case c24 => k_is)
    (case k24 => k_is)
    (case a25 => k_is)
    (case l25 => k_is)
    (case c25 => k_is)
    (case k25 => k_is)
    (case a26 => k_is)
    (case l26 => k_is)
    (case c26 => k_is)
    (case k26 => k_is)
    (case a27 => k_is)
    (case l27 => k_is)
    (case c27 => k_is)
    (case k27 => k_is)
    (case a28 => k_is)
    (case l28 => k_is)
    (case c28 => k_is)
    (case k28 => k_is)
    (case a29 => k_is)
    (case l29 => k_is)
    (case c29 => k_is)
    (case k29 => k_is)
    (case a30 => k_is)
    (case l30 => k_is)
    (case c30 => k_is)
    (case k30 => k_is)
    (case a31 => k_is)
    (case l31 => k_is)
    (case c31 => k_is)
    (case k31 => k_is)
    (case a32 => k_is)
    (case l32 => k_is)
    (case c32 => k_is)
    (case k32 => k_is)
    (case a33 => k_is)
    (case i33 => k_is)
    (case l33 => k_is)
    (case c33 => k_is)
    (case k33 => k_is)
    (case a34 => k_is)
    (case i34 => k_is)
    (case l34 => k_is)
    (case c34 => k_is)
    (case k34 => k_is)
    (case a35 => k_is)
    (case i35 => k_is)
    (case l35 => k_is)
    (case c35 => k_is)
    (case k35 => k_is)
    (case a36 => k_is)
    (case i36 => k_is)
    (case l36 => k_is)
    (case c36 => k_is)
    (case k36 => k_is)
    (case a37 => k_is)
    (case i37 => k_is)
    (case l37 => k_is)
    (case c37 => k_is)
    (case k37 => k_is)
    (case a38 => k_is)
    (case i38 => k_is)
    (case l38 => k_is)
    (case c38 => k_is)
    (case k38 => k_is)
    (case a39 => k_is)
    (case i39 => k_is)
    (case l39 => k_is)
    (case c39 => k_is)
    (case k39 => k_is)
    (case a40 => k_is)
    (case i40 => k_is)
    (case l40 => k_is)
    (case c40 => k_is)
    (case k40 => k_is)
    (case pgW => k_is)
    (case hdW => k_is)
    (case poW => k_is)
    (case saW => k_is)
    (case mkW => k_is)
    (case kcW => k_is)
    (case naW0 => k_is)
    (case naW1 => k_is)
    (case naW2 => k_is)
    (case pgS => k_is)
    (case hdS => k_is)
    (case poS => k_is)
    (case saS => k_is)
    (case mkS => k_is)
    (case kcS => k_is)
    (case naS0 => k_is)
    (case naS1 => k_is)
    (case naS2 => k_is)
    (case z_len => k_is)
    (case z_range => k_is)
    (case z_bint => k_is)
    (case z_blist => k_is)
    (case z_repr => k_is)
    (case z_btuple => k_is)
    (case z_max => k_is)
    (case uOA => k_is)
    (case uOL => k_is)
    (case uOZ => decide)
    (case uOV => rfl)
    (case uLA => k_is)
    (case uLL => k_is)
    (case uLZ => decide)
    (case uLV => rfl)
