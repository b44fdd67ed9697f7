import PyProof.Rows.All
import Wide.All
import OpenK.AllK
import Wide.FinOn
import HandS.ForMost
import HandS.AnyAll
import HandS.EndTab
import PyProof.GenCompD
import KE.KIntText
import HandS.StrMore
import HandS.Walk
import HandS.TryOnly
import HandS.DictComp
import HandS.IsInst
import HandS.Codes
import HandS.RaiseMore
import PySem.Challenge.RW_sameasnew_k44_any_block_is_read_so
set_option Elab.async false
set_option linter.all false
set_option maxRecDepth 100000
set_option maxHeartbeats 4000000
/-! My own small layer over HandS: promises of defs that hold where no repr is under way (guards = []), the repr of data, the end with tables. -/
namespace GD
open PySem PySem.Spec PyProof.Rows L2

/-- a promise that is kept where nothing is being shown -/
structure FnG (P : Program) (w : World) (K : PySem.W.Frag) (mg : Str → Option Value) (base : Heap)
    (CX : CXT) (k : Nat) (f : Addr) (fd : FuncData) (ps : List Str) (sp : Sp) : Prop where
  size : ∀ vs H Q E, sp vs H Q E → vs.length = ps.length
  go : ∀ (A : Around) (outer : List Env) (s : Shared) (H : Hp) (args : Args) (us : List Value)
    (vs : List V) (Q : VK) (E : XK), A.guards = some [] → Room k A →
    Env0 P w K mg base A outer s H → BindsTo s fd args (ps.zip us) → Vals vs us → sp vs H Q E →
    codeAny (model P w) A (.call (.ref f) args) (CR CX outer P w H s Q E) s

section
variable {P : Program} {w : World} {K : PySem.W.Frag} {mg : Str → Option Value} {base : Heap}
variable {CX : CXT} {k : Nat} {f : Addr} {fd : FuncData} {ps : List Str} {sp : Sp}
theorem FnG.of (F : FnOk P w K mg base CX k f fd ps sp) : FnG P w K mg base CX k f fd ps sp :=
  ⟨F.len, fun A outer s H args us vs Q E _ => F.run A outer s H args us vs Q E⟩

/-- a def of the text by its body, with what is known of the guards -/
theorem fnG_of {name qual : Str} {params : Arguments} {body : List Stmt} {scope : Scope}
    {dV kV doc pm cdv ct oc : Value} {an od : Option Addr} {osl : Array (Option Value)} {N : List Str}
    (lk : K.lookup f = some ⟨oc, od, .func (PySem.W.fnOf name qual params body scope dV kV doc pm an cdv ct), osl⟩)
    (hcd : PySem.W.codeIn K cdv qual = true) (S : FnScope N ps scope)
    (size : ∀ vs H Q E, sp vs H Q E → vs.length = ps.length)
    (hbody : ∀ (A : Around) (outer : List Env) (s : Shared) (H : Hp) (vs : List V) (Q : VK) (E : XK),
      (A.deeper (envOfC qual scope s.heap.objs.size f cdv)).guards = some [] →
      Room k (A.deeper (envOfC qual scope s.heap.objs.size f cdv)) → sp vs H Q E →
      ∃ t, PSs (cxOf CX P w K mg base N qual scope f cdv A outer s H E) body t ∧
        t { nx := fun _ H' => Q .non H', rt := Q } (start N vs) H) :
    FnG P w K mg base CX (k + 1) f (PySem.W.fnOf name qual params body scope dV kV doc pm an cdv ct) ps sp := by
  refine ⟨size, fun A outer s H args us vs Q E hgd hr z0 hb r hs => ?_⟩
  have hl := size _ _ _ _ hs
  have kx : K.In s.heap := z0.mod.kin.keeps fun b o e => (z0.bs b o e).1
  have nl : s.heap.NoLimit := z0.mod.nolimit.keeps fun b o e => (z0.bs b o e).1
  have kind : ∀ y ∈ ps.zip us, scope.names.lookup y.1 = some .local ∨
      (scope.names.lookup y.1 = some .cell ∧
        ((cellsFrom (s.heap.objs.size + 1) scope.names []).lookup y.1).isSome = true) := by
    rintro ⟨n, v⟩ hy
    rcases S.par n (List.of_mem_zip hy).1 with q | q
    · exact .inl q
    · exact .inr ⟨q, PySem.W.cellsFrom_some _ _ _ (.inl q)⟩
  refine codeAny_call_function hr.depth (kx _ _ lk) rfl S.co S.gen rfl (PySem.W.codeRec_of kx hcd) (hb _ _ _ _ ?_)
  refine wpAny_newFunctionEnv_cells S.kind kind fun env he s1 x => ?_
  subst he
  refine ⟨nl.keeps x.toInCall.keep, codeAny_func ?_⟩
  obtain ⟨t, ht, hq⟩ := hbody A outer s H vs Q E hgd (hr.deeper _) hs
  have J := inv_start (CX := CX) (E := E) (qual := qual) (f := f) (cd := cdv) S hr.hd z0 hl r x
  refine wpAny_mono (ht.run [] s1 (start N vs) H _ J hq) (fun fl s' hs' => ?_) fun e s' hs' => hs'
  cases fl with
  | ret u =>
    obtain ⟨v, σ2, H2, I2, rv, q⟩ := hs'
    exact ⟨v, H2, I2.os, I2.bare, I2.base, I2.hok, rv, q⟩
  | next =>
    obtain ⟨σ2, H2, I2, q⟩ := hs'
    exact ⟨V.non, H2, I2.os, I2.bare, I2.base, I2.hok, rfl, q⟩
  | brk =>
    obtain ⟨_, _, _, q⟩ := hs'
    exact q.elim
  | cont =>
    obtain ⟨_, _, _, q⟩ := hs'
    exact q.elim

theorem okG {x qual : Str} {st : Stmt} {N : List Str} (F : Fun K x qual st f fd) (S : FnScope N ps (defScope st))
    (size : ∀ vs H Q E, sp vs H Q E → vs.length = ps.length)
    (hbody : ∀ (cdv : Value) (A : Around) (outer : List Env) (s : Shared) (H : Hp) (vs : List V) (Q : VK) (E : XK),
      (A.deeper (envOfC qual (defScope st) s.heap.objs.size f cdv)).guards = some [] →
      Room k (A.deeper (envOfC qual (defScope st) s.heap.objs.size f cdv)) → sp vs H Q E →
      ∃ t, PSs (cxOf CX0 P w K mg base N qual (defScope st) f cdv A outer s H E).nox (defBody st) t ∧
        t { nx := fun _ H' => Q .non H', rt := Q } (start N vs) H) :
    FnG P w K mg base CX0 (k + 1) f fd ps sp := by
  obtain ⟨oc, od, kV, doc, pm, an, cdv, ct, osl, rfl, lk, hcd⟩ := F.ex
  refine fnG_of lk hcd S size fun A outer s H vs Q E hgd hr hs => ?_
  obtain ⟨t, h, q⟩ := hbody cdv A outer s H vs Q E hgd hr hs
  exact ⟨t, h.nox, q⟩

/-- a def of the text, where its code object is asked for: k is what stands of it in the written part -/
theorem okC {x qual : Str} {st : Stmt} {N : List Str} {oc : Value} {od an : Option Addr} {osl : Array (Option Value)} {kV doc pm cdv ct : Value}
    (lk : K.lookup f = some ⟨oc, od, .func (PySem.W.fnOf x qual (defArgs st) (defBody st) (defScope st) .none kV doc pm an cdv ct), osl⟩)
    (hcd : PySem.W.codeIn K cdv qual = true) (S : FnScope N ps (defScope st))
    (size : ∀ vs H Q E, sp vs H Q E → vs.length = ps.length)
    (hbody : ∀ (A : Around) (outer : List Env) (s : Shared) (H : Hp) (vs : List V) (Q : VK) (E : XK),
      Room k (A.deeper (envOfC qual (defScope st) s.heap.objs.size f cdv)) → sp vs H Q E →
      ∃ t, PSs (cxOf CX0 P w K mg base N qual (defScope st) f cdv A outer s H E).nox (defBody st) t ∧
        t { nx := fun _ H' => Q .non H', rt := Q } (start N vs) H) :
    FnOk P w K mg base CX0 (k + 1) f (PySem.W.fnOf x qual (defArgs st) (defBody st) (defScope st) .none kV doc pm an cdv ct) ps sp := by
  refine fn_of lk hcd S size fun A outer s H vs Q E hr hs => ?_
  obtain ⟨t, h, q⟩ := hbody A outer s H vs Q E hr hs
  exact ⟨t, h.nox, q⟩
end

section
variable {X : Cx} {CX : CXT} {k : Nat} {f : Addr} {fd : FuncData} {ps : List Str} {sp : Sp} {dvs : List V}
variable {ds : List Value} {E : XK} {x : Str} {p pos : Pos} {e : Expr} {es : List Expr} {t : TA}
/-- a call of such a def -/
theorem pe_callG (F : FnG X.prog X.w X.K X.mg X.base CX k f fd ps sp) (hgd : X.A.guards = some []) (hr : Room k X.A) (hg : Gl X x)
    (hm : X.mg x = some (.ref f)) (hk : PySem.W.keepIn X.K (.ref f) = true) (hb : Binds X.K fd ps ds) (hd : Vals dvs ds) (hx : Passes CX X E)
    (ha : PA X (e :: es) t) (hdb : (x == ("__debug__" : Str)) = false := by decide)
    (he : starEach (e :: es) X.env = (false, eval e X.env) :: starEach es X.env := by rfl)
    (hpl : (backTo pos (starEach es X.env)).any (·.1) = false := by rfl) :
    PE X (.Call (.Name x p) (e :: es) [] pos) (tCall sp dvs E t) := by
  refine ⟨fun pins s σ H Q I h => wpAny_Call_Name_kw (ld_glob I hg hm ?_ hdb)⟩
  refine PySem.W.callWith_K (h₀ := X.base) I.ok.mod.kin hk (thn (ha.run pos pins s σ H _ I h) fun us s1 hh => ?_) he hpl
  obtain ⟨vs, H1, I1, r, q⟩ := hh
  refine ⟨I1.kIn, ?_⟩
  have r2 : Vals (vs ++ dvs) (us ++ ds) := r.append hd
  have hl : (us ++ ds).length = ps.length := by
    rw [← r2.length]
    exact F.size _ _ _ _ q
  refine wpAny_call (codeAny_mono (F.go X.A X.stack s1 H1 ⟨us, []⟩ (us ++ ds) (vs ++ dvs) Q E hgd hr I1.env0 (hb s1 us I1.kIn hl) r2 q) fun r s' hq => ?_)
  cases r with
  | error e => exact hx pins σ H1 s1 e s' I1 hq
  | ok fl =>
    cases fl with
    | ret u => exact I1.after hq
    | next => exact hq.elim
    | brk => exact hq.elim
    | cont => exact hq.elim

/-! ### repr of data -/
/-- repr(x) of none-free data: what it shows -/
theorem cr_repr (hgd : X.A.guards = some []) (hu : X.A.units + 64 < cLine) : CallR X (.builtin "repr") (fun xs H Q => ∃ (v : V) (d : PyData), xs = [v] ∧ Dp X.K H v d ∧ d ≠ .none ∧
    d.showable = true ∧ d.hasDict = false ∧ d.depth ≤ 60 ∧ d.shown.length ≤ sizeLine ∧ Q (.str d.shown) H) := by
  intro pins s σ H xs us Q I r h
  obtain ⟨v, d, rfl, hd, hnn, hs, hn, hdp, hz, q⟩ := h
  obtain ⟨u, rfl, ru⟩ := vals1 r
  have fin : ∀ tk, EP X pins σ Q (.str d.shown tk) s := fun tk => ⟨.str _, H, I, ⟨_, rfl⟩, q⟩
  cases hd with
  | non => exact absurd rfl hnn
  | bl b =>
    obtain rfl : u = Value.bool b := ru
    refine PySem.P.repr_of_bool ?_
    have e : (PyData.bool b).shown = (if b then ("True" : Str) else "False") := by
      simp only [PyData.shown]
    rw [e] at q
    cases b
    · exact ⟨.str _, H, I.tok _, ⟨_, rfl⟩, q⟩
    · exact ⟨.str _, H, I.tok _, ⟨_, rfl⟩, q⟩
  | int i =>
    obtain ⟨t, rfl⟩ := ru
    refine PySem.P.repr_of_int ?_ ⟨.str _, H, I.tok _, ⟨_, rfl⟩, ?_⟩
    · simpa only [PyData.showable, decide_eq_true_eq] using hs
    · simpa only [PyData.shown] using q
  | str a =>
    obtain ⟨t, rfl⟩ := ru
    refine PySem.P.repr_of_str ⟨.str _, H, I.tok _, ⟨_, rfl⟩, ?_⟩ ?_
    · simpa only [PyData.shown] using q
    · simpa only [PyData.shown] using hz
  | lst hs' ha' =>
    obtain rfl : u = Value.ref _ := ru
    obtain ⟨as, rr⟩ := Dp.reads I _ _ _ (Dp.lst hs' ha') rfl
    exact repr_of_reads' rr hs (PyData.noDict_hsm hn) hgd (by omega) (fun _ _ e => e)
      (fun h' u tk hk => ⟨.str _, H, I.kept hk, ⟨_, rfl⟩, q⟩) hz
  | tup hs' ha' =>
    obtain rfl : u = Value.ref _ := ru
    obtain ⟨as, rr⟩ := Dp.reads I _ _ _ (Dp.tup hs' ha') rfl
    exact repr_of_reads' rr hs (PyData.noDict_hsm hn) hgd (by omega) (fun _ _ e => e)
      (fun h' u tk hk => ⟨.str _, H, I.kept hk, ⟨_, rfl⟩, q⟩) hz
end
end GD

set_option maxRecDepth 100000
set_option maxHeartbeats 4000000
namespace GD
open PySem PySem.Spec PyProof.Rows L2

/-- an empty table of a code object -/
abbrev tb0 : Obj := { cls := .none, data := .fields #[] }
/-- the script as it is laid -/
abbrev so (vs : List Value) : Obj := { cls := .type "list", data := .seq vs.toArray }
/-- at the entry: the tables at T, and the script unless it belongs to the written part -/
def atEntry (K : PySem.W.Frag) (T : List Addr) (a : Addr) (vs : List Value) (ns : List Int) : Hp := fun b =>
  if b ∈ T then some (.tbl #[]) else if b = a ∧ K.lookup a = none then some (.frz (so vs) (.lst (ns.map V.int))) else none

section
variable {P : Program} {w : World} {K : PySem.W.Frag} {mg mb : Str → Option Value} {CX : CXT} {k : Nat} {fa a : Addr}
variable {cs : List (Addr × Addr)} {fd : FuncData} {x : Str} {sp : Sp} {s₁ : Shared} {vs : List Value} {ns : List Int}
theorem entry_call (kx : K.In s₁.heap) (hns : s₁.heap.Ns mainGlobals mg) (hb : s₁.heap.Ns builtinsNs mb)
    (hbb : ∀ x : Str, x ≠ "__name__" → mb x = bootBuiltins x) (hlim : s₁.heap.NoLimit) (hg : s₁.gens = #[])
    (hT : ∀ p ∈ cs, s₁.heap.get? p.2 = some tb0) (nT : ∀ p ∈ cs, K.lookup p.2 = none) (C : ∀ p ∈ cs, PySem.W.CodeHd s₁.heap p.1 p.2)
    (hbm : ∃ (bm : Addr) (ob : Obj), mg "__builtins__" = some (.ref bm) ∧ bm ≠ builtinsNs ∧ s₁.heap.get? bm = some ob ∧
      ob.cls = .type "module" ∧ ob.dict = some builtinsNs ∧ ob.data = .plain)
    (ha : s₁.heap.get? a = some (so vs)) (hi : IntsAre vs ns) (hl : ns.length ≤ sizeLine) (hr : Room k callerA)
    (F : ∀ base : Heap, K.In base → base.Ns mainGlobals mg → (∀ p ∈ cs, GxR.TabB base mg p.1 p.2) → FnG P w K mg base CX k fa fd [x] sp)
    (hbind : ∀ (s : Shared) (u : Value), BindsTo s fd ⟨[u], []⟩ [(x, u)])
    (hsp : ∀ H : Hp, (∀ p ∈ cs, H p.2 = some (.tbl #[])) → SqL K H a (ns.map V.int) → sp [.ref a] H (fun v _ => v = .bl true) fun _ _ _ => False)
    (hCX : ∀ H e s', CX [] H s₁ (fun _ _ _ => False) e s' → False) :
    codeAny (model P w) callerA (.call (.ref fa) ⟨[.ref a], []⟩)
      (fun r s' => r = .ok (.ret (.bool true)) ∧ OldK s₁.heap s'.heap ∧ s'.os = s₁.os ∧ AllBare s'.gens) s₁ := by
  obtain ⟨T, eT⟩ : ∃ T, T = cs.map (·.2) := ⟨_, rfl⟩
  have inT : ∀ p ∈ cs, p.2 ∈ T := fun p hp => eT ▸ List.mem_map.mpr ⟨p, hp, rfl⟩
  have ofT : ∀ b ∈ T, s₁.heap.get? b = some tb0 ∧ K.lookup b = none := fun b hb => by
    rw [eT] at hb
    obtain ⟨p, hp, rfl⟩ := List.mem_map.mp hb
    exact ⟨hT p hp, nT p hp⟩
  have aT : a ∉ T := fun z => by
    have q := (ofT a z).1
    rw [ha] at q
    cases (congrArg Obj.data (Option.some.inj q) : Data.seq vs.toArray _ = Data.fields #[])
  have rv : Vals (ns.map V.int) vs := vals_ints hi
  obtain ⟨H, eH⟩ : ∃ H, H = atEntry K T a vs ns := ⟨_, rfl⟩
  have hTb : ∀ b ∈ T, H b = some (.tbl #[]) := fun b hb => by rw [eH]; exact if_pos hb
  have hAb : K.lookup a = none → H a = some (.frz (so vs) (.lst (ns.map V.int))) := fun z => by
    rw [eH]
    exact (if_neg aT).trans (if_pos ⟨rfl, z⟩)
  have hOt : ∀ b, b ∉ T → ¬(b = a ∧ K.lookup a = none) → H b = none := fun b h1 h2 => by
    rw [eH]
    exact (if_neg h1).trans (if_neg h2)
  have cases3 : ∀ b, (b ∈ T ∧ H b = some (.tbl #[])) ∨ ((b = a ∧ K.lookup a = none) ∧ H b = some (.frz (so vs) (.lst (ns.map V.int)))) ∨ (b ∉ T ∧ H b = none) := fun b => by
    by_cases h1 : b ∈ T
    · exact .inl ⟨h1, hTb b h1⟩
    · by_cases h2 : b = a ∧ K.lookup a = none
      · exact .inr (.inl ⟨h2, by rw [h2.1]; exact hAb h2.2⟩)
      · exact .inr (.inr ⟨h1, hOt b h1 h2⟩)
  have hok : HOk P w H s₁.heap := fun b u e => by
    rcases cases3 b with ⟨h1, h2⟩ | ⟨⟨rfl, h1⟩, h2⟩ | ⟨_, h2⟩
    · rw [h2] at e
      cases e
      exact (ofT b h1).1
    · rw [h2] at e
      cases e
      exact ⟨ha, by rw [List.length_map]; exact hl, vs, _, rv, ha⟩
    · rw [h2] at e
      cases e
  have hS : SqL K H a (ns.map V.int) := by
    cases hk : K.lookup a with
    | none => exact .inl (.inr ⟨so vs, hAb hk⟩)
    | some o =>
      have e := kx a o hk
      rw [ha] at e
      cases e
      exact .inr ⟨_, vs.toArray, _, hk, rfl, rfl, rfl, by rw [List.size_toArray, hi.length]; exact hl, by simpa using rv⟩
  -- what is neither a sequence nor an empty table is not tracked
  have plain : ∀ {b : Addr} {o : Obj}, s₁.heap.get? b = some o → (∀ us n, o.data ≠ .seq us n) → o.data ≠ .fields #[] → H b = none := fun {b o} e h1 h2 => by
    rcases cases3 b with ⟨q, _⟩ | ⟨⟨rfl, _⟩, _⟩ | ⟨_, q⟩
    · have q := (ofT b q).1
      rw [e] at q
      cases q
      exact (h2 rfl).elim
    · rw [ha] at e
      cases e
      exact (h1 _ _ rfl).elim
    · exact q
  have stay : ∀ {b : Addr} {o : Obj}, s₁.heap.get? b = some o → H b = none → (hidT s₁.heap H).get? b = some o := fun e n => hidT_get e n
  have nsB : ∀ {b : Addr} {m : Str → Option Value}, s₁.heap.Ns b m → (hidT s₁.heap H).Ns b m := fun {b m} ⟨o, es, ep, e, d, r⟩ =>
    ⟨o, es, ep, stay e (plain e (fun us n z => by rw [d] at z; cases z) fun z => by rw [d] at z; cases z), d, r⟩
  have kB : K.In (hidT s₁.heap H) := fun b o e => stay (kx b o e) (by
    rcases cases3 b with ⟨q, _⟩ | ⟨⟨rfl, q⟩, _⟩ | ⟨_, q⟩
    · rw [(ofT b q).2] at e
      cases e
    · rw [q] at e
      cases e
    · exact q)
  have mB : L2.Mod K mg (hidT s₁.heap H) := ⟨kB, nsB hns, ⟨mb, nsB hb, hbb⟩, let ⟨mc, h1, h2⟩ := hlim; ⟨mc, nsB h1, h2⟩⟩
  have notNs : ∀ b o, s₁.heap.get? b = some o → (∃ us, o.data = .fields us) ∨ o.data = .plain → mainGlobals ≠ b := fun b o e h z => by
    obtain ⟨o2, es, ep, e2, d, _⟩ := hns
    rw [z, e] at e2
    cases e2
    rcases h with ⟨us, h⟩ | h
    · rw [h] at d
      cases d
    · rw [h] at d
      cases d
  have tB : ∀ p ∈ cs, GxR.TabB (hidT s₁.heap H) mg p.1 p.2 := fun p hp => by
    have hp0 := hT p hp
    refine ⟨?_, ?_, notNs p.2 _ hp0 (.inl ⟨_, rfl⟩)⟩
    · obtain ⟨o, us, file, tf, flags, tg, inF, text, tt, e1, r1, r2, r3, rest⟩ := C p hp
      refine ⟨o, us, file, tf, flags, tg, inF, text, tt, stay e1 (plain e1 (fun vs n z => ?_) fun z => ?_), r1, r2, r3, rest⟩
      · rw [r2] at z
        cases z
      · rw [r2] at z
        cases z
        simp at r3
    · obtain ⟨bm, ob, b1, b2, b3, b4, b5, b6⟩ := hbm
      refine ⟨bm, ob, b1, b2, (notNs bm ob b3 (.inr b6)).symm, fun z => ?_, stay b3 (plain b3 (fun vs n z => ?_) fun z => ?_), b4, b5, b6⟩
      · rw [z, hp0] at b3
        cases b3
        cases b6
      · rw [b6] at z
        cases z
      · rw [b6] at z
        cases z
  have z0 : Env0 P w K mg (hidT s₁.heap H) callerA [] s₁ H :=
    ⟨rfl, mB, fun b o e => of_hidT e, Nat.le_of_eq (hidT_size _ _), trivial, (fun b hb => by cases hb), hok, .of_eq hg⟩
  refine codeAny_mono ((F _ kB (nsB hns) tB).go callerA [] s₁ H ⟨[.ref a], []⟩ [.ref a] [.ref a] _ _ rfl hr z0 (hbind s₁ (.ref a))
    (.cons rfl .nil) (hsp H (fun p hp => hTb p.2 (inT p hp)) hS)) fun r s' h => ?_
  cases r with
  | error e => exact (hCX H e s' h).elim
  | ok fl =>
    cases fl with
    | next => exact h.elim
    | brk => exact h.elim
    | cont => exact h.elim
    | ret u =>
      obtain ⟨v, H', os, bare, un, hok', r', q⟩ := h
      obtain rfl : v = .bl true := q
      obtain rfl : u = Value.bool true := r'
      have same : ∀ b o, b ∉ T → s₁.heap.get? b = some o → s'.heap.get? b = some o := fun b o nb e => by
        rcases cases3 b with ⟨q, _⟩ | ⟨_, q⟩ | ⟨_, q⟩
        · exact absurd q nb
        · obtain ⟨e1, _⟩ := hok b _ q
          obtain ⟨e2, _⟩ := hok' b _ (un.frzs b _ _ q)
          rw [e] at e1
          cases e1
          exact e2
        · exact un.keep b o e q (fun z => by cases z) (by simp)
      have grown : ∀ p ∈ cs, ∃ more : Array Value, s'.heap.get? p.2 = some { cls := .none, data := .fields more } := fun p hp => by
        obtain ⟨more, z⟩ := un.tbls p.2 #[] (hTb p.2 (inT p hp))
        exact ⟨_, hok' p.2 _ z⟩
      refine ⟨rfl, ⟨fun b o e => ?_, fun b o e => ?_⟩, os, bare⟩
      · by_cases hb : b ∈ T
        · rw [eT] at hb
          obtain ⟨p, hp, rfl⟩ := List.mem_map.mp hb
          obtain ⟨more, hm⟩ := grown p hp
          rw [hT p hp] at e
          cases e
          exact .inr (.inl ⟨((C p hp).tab (hT p hp)).isCodeTable, rfl, #[], more, rfl, by rw [Array.empty_append]; exact hm⟩)
        · exact .inl (same b o hb e)
      · by_cases hb : b ∈ T
        · rw [eT] at hb
          obtain ⟨p, hp, rfl⟩ := List.mem_map.mp hb
          obtain ⟨more, hm⟩ := grown p hp
          exact ⟨_, hm⟩
        · exact ⟨o, same b o hb e⟩
end

/-- the table of the top's def dn: its code object c, the table P -/
def TabsAt (q : Program) (K : PySem.W.Frag) (mg : Str → Option Value) (h : Heap) : Prop :=
  ∀ (dn : Str) (f c P : Addr) (o : Obj) (fd : FuncData) (e : Value) (dd : Option Addr) (us : Array Value) (sl : Array (Option Value)),
    ((recsOf q).any fun r => r.name == dn) = true → mg dn = some (.ref f) → K.lookup f = some o → o.data = .func fd → fd.code = .ref c →
    K.lookup c = some ⟨e, dd, .fields us, sl⟩ → us[11]? = some (.ref P) → h.get? P = some tb0 ∧ PySem.W.CodeHd h c P

/-- what is to be shown of the law's def at the head's heap h -/
def LawG (l : PySem.W.OpenLaw) (w : World) (K : PySem.W.Frag) (CX : CXT) (k n : Nat) (x : Str) (mg : Str → Option Value) (fa : Addr) (h : Heap) : Prop :=
  ∃ (fd : FuncData) (cs : List (Addr × Addr)) (sp : Sp), (∀ p ∈ cs, h.get? p.2 = some tb0) ∧ (∀ p ∈ cs, K.lookup p.2 = none) ∧
    (∀ p ∈ cs, PySem.W.CodeHd h p.1 p.2) ∧ (∀ (s : Shared) (u : Value), BindsTo s fd ⟨[u], []⟩ [(x, u)]) ∧
    (∀ (H : Hp) (a : Addr) (ns : List Int), ns.length ≤ n → (∀ z ∈ ns, Builtin.Int.intBits z ≤ 1048576) → (∀ p ∈ cs, H p.2 = some (.tbl #[])) →
      SqL K H a (ns.map V.int) → sp [.ref a] H (fun v _ => v = .bl true) fun _ _ _ => False) ∧
    ∀ base : Heap, K.In base → base.Ns mainGlobals mg → (∀ p ∈ cs, GxR.TabB base mg p.1 p.2) → FnG l.prog w K mg base CX k fa fd [x] sp

theorem walk_ofG {l : PySem.W.OpenLaw} {n k : Nat} {q : Program} {loose : List Str} {XP : (Str → Option Value) → Heap → Prop}
    {YP : World → Heap → Prop} {d : DefRec} {K : Params → PySem.W.Frag} {CX : World → CXT} {x : Str}
    (hn : l.most = some n) (hn2 : n ≤ sizeLine) (hdf : d.params.defaults = []) (hr : Room k callerA)
    (hY : ∀ (w : World) (h : Heap), YP w h → (K w.params).In h)
    (F : ∀ (w : World) (mg : Str → Option Value) (fa : Addr) (h : Heap), YP w h → (K w.params).In h → h.Ns mainGlobals mg →
      mg d.name = some (.ref fa) → TabsAt q (K w.params) mg h → LawG l w (K w.params) (CX w) k n x mg fa h)
    (hCX : ∀ (w : World) (H : Hp) (s : Shared) (e : Value) (s' : Shared), CX w [] H s (fun _ _ _ => False) e s' → False) :
    PySem.W.WalkO q loose XP YP l.row.toRowW d [] (fun f vs => PySem.call f vs) := by
  refine Att.attach_callB hn hdf fun w s₀ s₁ mg mb fa o pm cd doc a vs ns G Y ho hd hcd hmg hobj hints hlen hbits hg => ?_
  have kx := hY w _ Y
  have tabs : TabsAt q (K w.params) mg s₁.heap := fun dn f c P o fd e dd us sl h1 h2 h3 h4 h5 h6 h7 => by
    obtain ⟨r, hr1, hr2⟩ := List.any_eq_true.mp h1
    obtain rfl : r.name = dn := beq_iff_eq.mp hr2
    obtain ⟨a', o', fd', c', P', g1, g2, g3, g4, g5, g6⟩ := G.T.tab r hr1
    rw [h2] at g1
    cases g1
    have z1 := kx _ _ h3
    rw [z1] at g2
    cases g2
    rw [h4] at g3
    cases g3
    rw [h5] at g4
    cases g4
    have hd := PySem.W.CodeHd.of g5 g6
    obtain ⟨⟨oc, vc, e1, _, e3, e4⟩, hP⟩ := g6
    have z2 := kx _ _ h6
    rw [z2] at e1
    cases e1
    cases e3
    rw [h7] at e4
    cases e4
    exact ⟨hP, hd⟩
  obtain ⟨fd, cs, sp, hT, nT, C, hb, hsp, hF⟩ := F w mg fa _ Y kx G.T.g hmg tabs
  exact entry_call kx G.T.g G.T.b G.T.builtins G.T.nolimit hg hT nT C G.T.bmain hobj hints (Nat.le_trans hlen hn2) hr hF hb
    (fun H hH hS => hsp H a ns hlen hbits hH hS) fun H e s' => hCX w H s₁ e s'
end GD

set_option maxRecDepth 100000
set_option maxHeartbeats 4000000
namespace GD
open PySem PySem.Spec PyProof.Rows L2

/-- the element of a generator over the signs of a text, where it may call a def of the module: a test of the sign c -/
def EltD (X : Cx) (scope : Scope) (x : Str) (elt : Expr) (pb : Nat → Bool) : Prop :=
  ∀ (cenv : Env) (A' : Around) (E' : Value → Shared → Prop) (c : Nat) (t : Tok) (s₂ : Shared) (m₂ : Str → Option Value),
    cenv.scope = scope → cenv.globals = X.env.globals → A'.handled = none → A'.depth ≤ X.A.depth + 1 → A'.units ≤ X.A.units + 8 →
    (∀ b o, X.base.get? b = some o → s₂.heap.get? b = some o) → s₂.heap.Ns cenv.locals m₂ → m₂ x = some (.str ⟨#[c]⟩ t) →
    wpAny (model X.prog X.w) A' (eval elt cenv) (fun y s₃ => y = .bool (pb c) ∧ Keeps s₂ s₃) E' s₂

section
variable {X : Cx} {pins : List (Addr × Obj)} {σ : L2.St} {H : Hp} {s : Shared}
theorem gen_signs {c P : Addr} {elt iter : Expr} {x : Str} {px gpos : Pos} {scope : Scope} {pb : Nat → Bool} {te : TE} {k : Nat}
    {Q' : Value → Shared → Prop} {R : Str → Hp → Prop} (hr : Room k X.A) (TB : GxR.TabB X.base X.mg c P) (hcode : X.env.code = .ref c)
    (S : GxR.GenS X.env scope x) (hi : PE X iter te) (hel : L2.Mod X.K X.mg X.base → EltD X scope x elt pb) (hs : ∀ v, genFold iter X.env v = pure v) (I : Inv X pins σ H s)
    (h : te σ H fun v H1 => ∃ a : Str, v = .str a ∧ GxR.TabG H1 P ∧ R a H1)
    (hQ : ∀ a H1 g s5, R a H1 → GxR.Ready X pins σ H1 P a pb g s5 → Q' (.ref g) s5) :
    wpAny (model X.prog X.w) X.A (eval (.GeneratorExp elt [⟨.Name x px, iter, [], 0⟩] scope gpos) X.env) Q' X.xe s := by
  refine wpAny_GeneratorExp_walksQD hr.hd S.co (closure_ok S.free) S.cell S.dot S.loc S.kind (by have := hr.dp; omega) ?_ hs
  refine thn (hi.run pins s σ H _ I h) fun xv s1 hv => ?_
  obtain ⟨v, H1, I1, r1, a, rfl, ⟨ps, hP, ht⟩, q1⟩ := hv
  obtain ⟨t, rfl⟩ := _root_.id r1
  refine wpAny_pyIter_str fun o St W hst => ?_
  have hP1 : s1.heap.get? P = some { cls := .none, data := .fields ps } := I1.hok P _ hP
  have ltP : P < s1.heap.objs.size := Heap.lt_size hP1
  have up : ∀ b u, s1.heap.get? b = some u → (s1.heap.push o).get? b = some u := fun b u e => Heap.get?_push_of_some _ e
  have cd : PySem.W.CodeHd (s1.heap.push o) c P := TB.code.keeps fun b u e => up b u (I1.bk b u e)
  have nl2 : (s1.heap.push o).NoLimit := I1.nolimit.push o
  have sz2 : (s1.heap.push o).objs.size = s1.heap.objs.size + 1 := Heap.size_push ..
  have rest : ∀ (code : Value) (h3 : Heap) (tk : Nat) (qs : Array Value), Heap.ExtBut P (s1.heap.push o) h3 → (s1.heap.push o).objs.size ≤ h3.objs.size →
      h3.get? P = some { cls := .none, data := .fields qs } → (∃ more, qs = ps ++ more) → TriplesOk qs.toList →
      wpAny (model X.prog X.w) X.A (builtinsFor X.env.globals X.env.builtins) (fun bi s₄ =>
        ∃ Ia fp wr n₀ Pf St₀ pz F, Value.ref s1.heap.objs.size = .ref Ia ∧ (∀ A' : Around, A'.handled = none → Walks X.prog X.w A' Ia fp wr n₀ Pf St₀) ∧
          St₀ 0 s₄.heap ∧ (∀ b ∈ fp, b < s₄.heap.objs.size) ∧ s₄.heap.NoLimit ∧ cStatics ∉ wr ∧
          (∀ href : Heap, (∀ b o, s₄.heap.get? b = some o → href.get? b = some o) →
            QuietGenD X.prog X.w (genEnv scope (cloFrom X.env.cells scope.names []) s₄.heap.objs.size code bi X.env) x [] elt
              (List.range s₄.heap.objs.size) wr Pf pz F href (X.A.depth + 1) (X.A.units + 8)) ∧
          (∀ a h₅ tk gs, gs.bare = true → s₄.heap.objs.size < a → h₅.objs.size = a + 1 → (∀ b o, s₄.heap.get? b = some o → h₅.get? b = some o) →
            WalksS X.prog X.w X.A.in4 a (a :: s₄.heap.objs.size :: List.range s₄.heap.objs.size) (s₄.heap.objs.size :: wr) (GenOnlyQ s₄.gens.size)
              (passing pz n₀ 0).length (fun j y => ∃ i, (passing pz n₀ 0)[j]? = some i ∧ F i y)
              (GenAt X.prog X.w X.A.in4 a s₄.gens.size s₄.heap.objs.size (List.range s₄.heap.objs.size) wr pz n₀ F) →
            GenAt X.prog X.w X.A.in4 a s₄.gens.size s₄.heap.objs.size (List.range s₄.heap.objs.size) wr pz n₀ F 0 { s₄ with gens := s₄.gens.push gs, toks := tk, heap := h₅ } →
            Q' (.ref a) { s₄ with gens := s₄.gens.push gs, toks := tk, heap := h₅ })) X.xe { s1 with heap := h3, toks := tk } := by
    intro code h3 tk qs hx hsz hP3 hmore ht3
    obtain ⟨bm, ob, e1, e2, e3, e4, e5, e6, e7, e8⟩ := TB.bm
    have hcl : cStatics < s1.heap.objs.size := let ⟨_, hns, _⟩ := I1.nolimit; hns.lt
    have hcP : cStatics ≠ P := fun e => by
      obtain ⟨_, ⟨o', es, ep, ho, hd, _⟩, _⟩ := I1.nolimit
      rw [e, hP1] at ho
      cases ho
      cases hd
    have k3 : ∀ b u, b ≠ P → s1.heap.get? b = some u → h3.get? b = some u := fun b u hb e => hx b u hb (up b u e)
    have kbase : ∀ b u, X.base.get? b = some u → h3.get? b = some u := fun b u e => k3 b u (fun z => by
      have q := (I1.bs b u e).2
      rw [z, hP] at q
      cases q) (I1.bk b u e)
    refine wpAny_builtinsFor (m := X.mg) (by rw [I1.ok.glob]; exact ((I1.mod.glob.keeps I1.bk).push o).extBut hx TB.gP) e1 e2 (k3 _ _ e4 (I1.bk _ _ e5)) e6 e7 e8 ?_
    refine ⟨s1.heap.objs.size, [s1.heap.objs.size], [s1.heap.objs.size], a.cps.size, SignAt a, St, (fun _ => true), (fun i y => ∃ cc, a.cps[i]? = some cc ∧ y = .bool (pb cc)), rfl, W, ?_, ?_, nl2.extBut hx hcP, ?_, ?_, ?_⟩
    · refine (W X.A hr.hd).frame _ _ _ hst fun b hb u e => hx b u (fun z => ?_) e
      obtain rfl : b = s1.heap.objs.size := by simpa using hb
      exact Nat.ne_of_lt ltP z.symm
    · intro b hb
      obtain rfl : b = s1.heap.objs.size := by simpa using hb
      show s1.heap.objs.size < h3.objs.size
      omega
    · intro z
      obtain z : cStatics = s1.heap.objs.size := by simpa using z
      exact Nat.ne_of_lt hcl z
    · intro href hhref
      refine ⟨fun A' E' i v s₂ m₂ hA hD hU hPv hn hm hk => ?_, fun A' E' i v s₂ m₂ hA hD hU hPv hp hn hm hk => ?_⟩
      · simp only [List.forIn_nil]
        exact wpAny_pure ⟨rfl, GxR.keeps_refl _⟩
      · obtain ⟨cc, u, hcc, rfl⟩ := hPv
        have kb : ∀ b o, X.base.get? b = some o → s₂.heap.get? b = some o := fun b o e =>
          hk b (List.mem_range.mpr (Heap.lt_size (kbase b o e))) (fun z => by
            obtain z : b = s1.heap.objs.size := by simpa using z
            exact Nat.ne_of_lt (Heap.lt_size (I1.bk b o e)) z) o (hhref b o (kbase b o e))
        exact wpAny_mono (hel I1.ok.mod _ A' E' cc u s₂ m₂ rfl rfl hA hD hU kb hn hm) (fun y s3 r => ⟨⟨cc, hcc, r.1⟩, r.2⟩) fun _ _ e => e
    · intro g h5 tk5 gs hgb hag hsz5 hk5 W5 hat
      simp only [GxR.passing_true, List.length_range] at W5
      refine hQ a H1 g _ q1 ⟨_, _, _, _, _, W5.in4_1, hat, fun j y sj Qj Ej hy hQj => ?_, fun s' hm => ?_⟩
      · obtain ⟨i, hij, cc, hcc, rfl⟩ := hy
        obtain ⟨hj, ej⟩ := List.getElem?_eq_some_iff.mp hij
        rw [List.getElem_range] at ej
        subst ej
        have e9 : a.cps.toList[j]? = some cc := by
          rw [Array.getElem?_toList]
          exact hcc
        have q2 : Qj (GxR.trF pb a.cps.toList j) sj := hQj
        rw [GxR.trF_some e9] at q2
        exact wpAny_truthy_bool q2
      · obtain ⟨more, em⟩ := hmore
        have nwr : ∀ b u, s1.heap.get? b = some u → b ∉ h3.objs.size :: [s1.heap.objs.size] := fun b u e hb => by
          have hl := Heap.lt_size e
          rcases List.mem_cons.mp hb with z | z
          · rw [z] at hl
            have h9 : (h3.objs.size : Nat) < s1.heap.objs.size := hl
            omega
          · obtain z : b = s1.heap.objs.size := by simpa using z
            exact Nat.ne_of_lt hl z
        have J := GxR.inv_tab (more := more) (h' := s'.heap) (g' := s'.gens) (d' := s'.drawn) (t' := s'.toks) I1 hP (fun b u hb e => hm.heap b u (nwr b u e) (hk5 b u (k3 b u hb e)))
          (by rw [← em]; exact hm.heap P _ (nwr P _ hP1) (hk5 P _ hP3)) (AllBare.movedS (I1.bare.push hgb) hm)
        rw [GxR.sh_eta s1 s' hm.os] at J
        exact ⟨upd H1 P (.tbl (ps ++ more)), ⟨⟨ps ++ more, upd_same, by rw [← em]; exact ht3⟩, fun b hb => upd_ne hb⟩, J⟩
  refine ⟨nl2, ?_⟩
  have hP2 := up P _ hP1
  cases hf : codeAmong gpos ps.toList with
  | none =>
    refine wpAny_genexprCodeX hcode (cd.code hP2 ht) (cd.tab hP2) hf fun c' h' tk hx hge hlt hco' _ htab' _ => ?_
    obtain ⟨o1, vs, f1, tf, fl, tg, inF, tx, tt, op, _, _, _, _, _, _, _, _, _, htr, _⟩ := hco'
    exact rest _ h' tk _ hx (Nat.le_trans hge (Nat.le_of_lt hlt)) htab'.2 ⟨_, rfl⟩ htr
  | some cv =>
    refine wpAny_genexprCode_hit hcode (cd.code hP2 ht) hf ?_
    exact rest cv (s1.heap.push o) s1.toks ps (Heap.ExtBut.refl _ _) (Nat.le_refl _) hP2 ⟨#[], by simp⟩ ht

/-- all(test for x in e) -/
theorem pe_allD {c P : Addr} {elt iter : Expr} {x : Str} {px p pos gpos : Pos} {scope : Scope} {pb : Nat → Bool} {te : TE} {k : Nat}
    (hr : Room k X.A) (hg : Gl X "all") (hm : X.mg "all" = none) (TB : GxR.TabB X.base X.mg c P) (hcode : X.env.code = .ref c) (S : GxR.GenS X.env scope x)
    (hi : PE X iter te) (hel : L2.Mod X.K X.mg X.base → EltD X scope x elt pb) (hs : ∀ v, genFold iter X.env v = pure v)
    (he : starEach [.GeneratorExp elt [⟨.Name x px, iter, [], 0⟩] scope gpos] X.env = (false, eval (.GeneratorExp elt [⟨.Name x px, iter, [], 0⟩] scope gpos) X.env) :: starEach [] X.env := by rfl) :
    PE X (.Call (.Name "all" p) [.GeneratorExp elt [⟨.Name x px, iter, [], 0⟩] scope gpos] [] pos) (GxR.tAllS P pb te) := by
  refine ⟨fun pins s σ H Q I h => wpAny_Call_Name_kw (ld_blt I hg hm (by decide +kernel : bootBuiltins "all" = some (.builtin "all")) ?_)⟩
  refine PyProof.Rows.callWith_builtin1 ?_ he (by rfl)
  rw [he]
  show wpAny _ _ (spliced ((false, _) :: backTo pos (starEach [] X.env))) _ _ s
  refine Calls.spliced_cons (gen_signs (R := fun a H1 => ∀ H2, GxR.Tabbed P H1 H2 → Q (.bl (a.cps.toList.all pb)) H2) hr TB hcode S hi hel hs I h fun a H1 g s5 hR hG => ?_)
  obtain ⟨fp, wr, G, F, St, W, hst, htr, hI⟩ := hG
  refine Calls.spliced_nil (call_all_walkS (W.self 0 _ _ _ hst ⟨g, fp, wr, G, _, F, St, _, rfl, W, hst, htr, fun s' hmv => ?_⟩))
  obtain ⟨H2, hT, J⟩ := hI s' hmv
  refine ⟨.bl _, H2, J, rfl, ?_⟩
  rw [GxR.all_signs a pb]
  exact hR H2 hT

/-- an element that calls nothing: x in N, N a text of the module -/
theorem elt_inSigns {scope : Scope} {x n : Str} {z : Str} {tz : Tok} {p1 p2 p3 : Pos} (hgl : X.env.globals = mainGlobals) (hmod : L2.Mod X.K X.mg X.base) (hk : scope.kind = .function)
    (hl : scope.names.lookup x = some .local) (hn : scope.names.lookup n = some .globalImplicit) (hm : X.mg n = some (.str z tz))
    (hd : (x == ("__debug__" : Str)) = false := by decide) (hd2 : (n == ("__debug__" : Str)) = false := by decide) :
    EltD X scope x (.Compare (.Name x p1) [.In] [.Name n p2] p3) (fun c => decide (c ∈ z.cps.toList)) := by
  intro cenv A' E' c t s₂ m₂ hs hg hA hD hU hb hns hx
  refine wpAny_Compare1 ?_
  refine wpAny_Name (wpAny_loadName_local (by rw [hs]; exact hk) (show cenv.scope.names.lookup x = some .local by rw [hs]; exact hl) hns hx ?_) hd
  refine Calls.Name_function_global (by rw [hs]; exact hk) (show cenv.scope.names.lookup n = some .globalImplicit by rw [hs]; exact hn) (Calls.loadGlobal_global (by rw [hg, hgl]; exact hmod.glob.keeps hb) hm ?_) hd2
  refine in_str ⟨?_, GxR.keeps_refl _⟩
  rw [PySem.StrLaws.found_one z c]
end
end GD

set_option maxRecDepth 100000
set_option maxHeartbeats 4000000
/-! the mathematics of law k01: lists of codes, no Python -/
namespace K1
open PySem

def S (l : List Nat) : Str := ⟨l.toArray⟩
theorem S_toList (l : List Nat) : (S l).cps.toList = l := rfl
theorem S_len (l : List Nat) : (S l).length = l.length := by show l.toArray.size = _; simp
theorem S_of (z : Str) : S z.cps.toList = z := by cases z; rfl
theorem S_app (a b : List Nat) : S a ++ S b = S (a ++ b) := by
  show (⟨a.toArray ++ b.toArray⟩ : Str) = ⟨(a ++ b).toArray⟩
  rw [List.append_toArray]
theorem S_inj {a b : List Nat} (h : S a = S b) : a = b := congrArg (fun z : Str => z.cps.toList) h

/-! ### finding a sign -/
section
open Builtin Builtin.Str StrLaws
theorem occ_stop (s sub : Str) (hi : Nat) : ∀ (l : List Nat) (st : Array Nat × Nat), st.fst.size = 1 → (forIn l st (occBody s sub hi 1)).run.fst = st.fst
  | [], st, h => rfl
  | a :: l, st, h => by
    rw [List.forIn_cons]
    unfold occBody
    rw [if_neg (fun z => by have := z.1.1.1; omega)]
    exact occ_stop s sub hi l st h
theorem occ_first (x : Str) (c : Nat) : ∀ (m cur free : Nat), free ≤ cur →
    ((∀ k, cur ≤ k → k < cur + m → x.cps.toList[k]? ≠ some c) ∧ (forIn (List.range' cur m) ((#[] : Array Nat), free) (occBody x ⟨#[c]⟩ x.length 1)).run.fst = #[]) ∨
    ∃ k, cur ≤ k ∧ k < cur + m ∧ x.cps.toList[k]? = some c ∧ (∀ j, cur ≤ j → j < k → x.cps.toList[j]? ≠ some c) ∧ (forIn (List.range' cur m) ((#[] : Array Nat), free) (occBody x ⟨#[c]⟩ x.length 1)).run.fst = #[k]
  | 0, cur, free, h => .inl ⟨fun k h1 h2 => by omega, rfl⟩
  | m + 1, cur, free, h => by
    rw [List.range'_succ, List.forIn_cons]
    unfold occBody
    by_cases hc : x.cps.toList[cur]? = some c
    · have q := (subAt_one x c cur).mpr hc
      rw [if_pos ⟨⟨⟨by simp, h⟩, q.1⟩, q.2⟩]
      refine .inr ⟨cur, Nat.le_refl _, by omega, hc, fun j h1 h2 => by omega, ?_⟩
      exact occ_stop x _ _ _ _ rfl
    · rw [if_neg (fun z => hc ((subAt_one x c cur).mp ⟨z.1.2, z.2⟩))]
      rcases occ_first x c m (cur + 1) free (by omega) with ⟨h1, h2⟩ | ⟨k, h1, h2, h3, h4, h5⟩
      · refine .inl ⟨fun k k1 k2 => ?_, h2⟩
        by_cases e : k = cur
        · rw [e]; exact hc
        · exact h1 k (by omega) (by omega)
      · refine .inr ⟨k, by omega, by omega, h3, fun j j1 j2 => ?_, h5⟩
        by_cases e : j = cur
        · rw [e]; exact hc
        · exact h4 j (by omega) j2
/-- s.find(c, i): the first place from i on -/
theorem find_one (x : Str) (c i : Nat) (hi : i ≤ x.length) :
    (Txt.find3 x ⟨#[c]⟩ (i : Nat) = -1 ∧ c ∉ x.cps.toList.drop i) ∨
    ∃ k : Nat, Txt.find3 x ⟨#[c]⟩ (i : Nat) = ((i + k : Nat) : Int) ∧ (x.cps.toList.drop i)[k]? = some c ∧ c ∉ (x.cps.toList.drop i).take k := by
  have e : fromIndex x.length (i : Nat) = i := by
    show (max (0 : Int) (if ((i : Nat) : Int) < 0 then _ else ((i : Nat) : Int))).toNat = i
    rw [if_neg (by omega)]
    omega
  unfold Txt.find3
  rw [e, occ_eq]
  have xl : x.length = x.cps.toList.length := by show x.cps.size = _; simp
  rcases occ_first x c (x.length + 1 - i) i i (Nat.le_refl _) with ⟨h1, h2⟩ | ⟨k, h1, h2, h3, h4, h5⟩
  · left
    rw [h2]
    refine ⟨rfl, fun hm => ?_⟩
    obtain ⟨j, hj⟩ := List.getElem?_of_mem hm
    rw [List.getElem?_drop] at hj
    have := (List.getElem?_eq_some_iff.mp hj).1
    exact h1 (i + j) (by omega) (by omega) hj
  · right
    rw [h5]
    refine ⟨k - i, ?_, ?_, fun hm => ?_⟩
    · show ((k : Nat) : Int) = _
      omega
    · rw [List.getElem?_drop, show i + (k - i) = k by omega]
      exact h3
    · obtain ⟨j, hj⟩ := List.getElem?_of_mem hm
      have hlt : j < k - i := by
        have := (List.getElem?_eq_some_iff.mp hj).1
        rw [List.length_take] at this
        omega
      rw [List.getElem?_take_of_lt hlt, List.getElem?_drop] at hj
      exact h4 (i + j) (by omega) (by omega) hj
end

/-! ### tokens -/
def LET : List Nat := ("abcdefghijklmnopqrstuvwxyz" : Str).cps.toList
def DIG : List Nat := ("0123456789" : Str).cps.toList
def SGN : List Nat := ("(),;+-*<=" : Str).cps.toList
def mayB (c : Nat) : Bool := decide (32 ≤ c ∧ c ≤ 126 ∧ c ≠ 37 ∧ c ≠ 34 ∧ c ≠ 124)
/-- how many of cs stand at the beginning -/
def run (cs l : List Nat) : Nat := (l.takeWhile fun c => decide (c ∈ cs)).length
def val (ds : List Nat) : Nat := ds.foldl (fun acc c => acc * 10 + (c - 48)) 0
inductive Tok where
  | word (l : List Nat) | num (n : Nat) | str (l : List Nat) | sign (c : Nat)
/-- the text of a number -/
def numT (n : Nat) : List Nat := (Str.ofString (toString (n : Int))).cps.toList
/-- how far the next quote is -/
def toQ (r : List Nat) : Nat := (r.takeWhile fun d => d != 34).length
/-- the token at the beginning, and how many signs it has -/
def lexC (c : Nat) (r : List Nat) : Option (Tok × Nat) :=
    if c ∈ LET then (if run LET (c :: r) ≤ 6 then some (.word ((c :: r).take (run LET (c :: r))), run LET (c :: r)) else none)
    else if c ∈ DIG then
      (if run DIG (c :: r) ≤ 5 ∧ (c :: r).take (run DIG (c :: r)) = numT (val ((c :: r).take (run DIG (c :: r)))) then
        some (.num (val ((c :: r).take (run DIG (c :: r)))), run DIG (c :: r)) else none)
    else if c = 34 then
      (if toQ r < r.length ∧ toQ r ≤ 20 ∧ (r.take (toQ r)).all mayB = true then some (.str (r.take (toQ r)), toQ r + 2) else none)
    else if c ∈ SGN then some (.sign c, 1) else none
/-- how a line is split -/
inductive Lex : List Nat → Option (List Tok) → Prop
  | nil : Lex [] (some [])
  | sp {r o} : Lex r o → Lex (32 :: r) o
  | bad {c r} : c ≠ 32 → lexC c r = none → Lex (c :: r) none
  | tok {c r t k o} : c ≠ 32 → lexC c r = some (t, k) → Lex ((c :: r).drop k) o → Lex (c :: r) (o.map (t :: ·))

theorem run_le (cs l : List Nat) : run cs l ≤ l.length := (List.takeWhile_sublist _).length_le
theorem run_pos {cs : List Nat} {c : Nat} {r : List Nat} (h : c ∈ cs) : 1 ≤ run cs (c :: r) := by
  unfold run
  rw [List.takeWhile_cons, if_pos (decide_eq_true h)]
  simp
theorem lexC_pos {c : Nat} {r : List Nat} {t : Tok} {k : Nat} (h : lexC c r = some (t, k)) : 1 ≤ k := by
  unfold lexC at h
  by_cases h1 : c ∈ LET
  · rw [if_pos h1] at h
    split at h
    · cases h
      exact run_pos h1
    · cases h
  rw [if_neg h1] at h
  by_cases h2 : c ∈ DIG
  · rw [if_pos h2] at h
    split at h
    · cases h
      exact run_pos h2
    · cases h
  rw [if_neg h2] at h
  by_cases h3 : c = 34
  · rw [if_pos h3] at h
    split at h
    · cases h
      omega
    · cases h
  rw [if_neg h3] at h
  split at h
  · cases h
    exact Nat.le_refl _
  · cases h
/-- every line is split in some way -/
theorem lex_all : ∀ (n : Nat) (l : List Nat), l.length ≤ n → ∃ o, Lex l o
  | _, [], _ => ⟨_, .nil⟩
  | 0, _ :: _, h => by simp at h
  | n + 1, c :: r, h => by
    have hr : r.length ≤ n := by simpa using h
    by_cases hc : c = 32
    · obtain ⟨o, ho⟩ := lex_all n r hr
      subst hc
      exact ⟨o, .sp ho⟩
    · cases e : lexC c r with
      | none => exact ⟨none, .bad hc e⟩
      | some tk =>
        obtain ⟨t, k⟩ := tk
        have hk := lexC_pos e
        obtain ⟨o, ho⟩ := lex_all n ((c :: r).drop k) (by rw [List.length_drop, List.length_cons]; omega)
        exact ⟨_, .tok hc e ho⟩
/-! ### quotes come in twos -/
def q34 (l : List Nat) : Nat := l.count 34
theorem q34_none {l : List Nat} (h : 34 ∉ l) : q34 l = 0 := List.count_eq_zero.mpr h
theorem q34_app (a b : List Nat) : q34 (a ++ b) = q34 a + q34 b := List.count_append
theorem run_take (cs l : List Nat) : l.take (run cs l) = l.takeWhile fun c => decide (c ∈ cs) := by
  unfold run
  exact (List.prefix_iff_eq_take.mp (List.takeWhile_prefix _)).symm
theorem mem_tw {p : Nat → Bool} {x : Nat} : ∀ {l : List Nat}, x ∈ l.takeWhile p → p x = true
  | [], h => by cases h
  | a :: l, h => by
    rw [List.takeWhile_cons] at h
    split at h
    · rename_i ha
      rcases List.mem_cons.mp h with rfl | h
      · exact ha
      · exact mem_tw h
    · cases h
theorem mem_run {cs l : List Nat} {c : Nat} (h : c ∈ l.take (run cs l)) : c ∈ cs := by
  rw [run_take] at h
  exact of_decide_eq_true (mem_tw h)
theorem at_tw {p : Nat → Bool} : ∀ {l : List Nat}, (l.takeWhile p).length < l.length → ∃ x, l[(l.takeWhile p).length]? = some x ∧ p x = false
  | [], h => by cases h
  | a :: l, h => by
    rw [List.takeWhile_cons] at h ⊢
    cases ha : p a with
    | true =>
      rw [ha] at h
      simp only [if_true, List.length_cons] at h ⊢
      obtain ⟨x, h1, h2⟩ := at_tw (p := p) (l := l) (by omega)
      exact ⟨x, by simpa using h1, h2⟩
    | false => exact ⟨a, by simp, ha⟩
theorem take_tw {p : Nat → Bool} (l : List Nat) : l.take (l.takeWhile p).length = l.takeWhile p := (List.prefix_iff_eq_take.mp (List.takeWhile_prefix _)).symm
theorem lexC_even {c : Nat} {r : List Nat} {t : Tok} {k : Nat} (h : lexC c r = some (t, k)) : q34 ((c :: r).take k) % 2 = 0 := by
  unfold lexC at h
  by_cases h1 : c ∈ LET
  · rw [if_pos h1] at h
    split at h
    · cases h
      rw [q34_none (fun z => absurd (mem_run z) (by decide))]
    · cases h
  rw [if_neg h1] at h
  by_cases h2 : c ∈ DIG
  · rw [if_pos h2] at h
    split at h
    · cases h
      rw [q34_none (fun z => absurd (mem_run z) (by decide))]
    · cases h
  rw [if_neg h2] at h
  by_cases h3 : c = 34
  · rw [if_pos h3] at h
    split at h
    · rename_i hk
      cases h
      subst h3
      have n1 : 34 ∉ r.take (toQ r) := fun z => by
        unfold toQ at z
        rw [take_tw] at z
        have := mem_tw z
        simp at this
      obtain ⟨x, hx, hp⟩ := at_tw (p := fun d => d != 34) (l := r) hk.1
      have hx' : x = 34 := by simpa using hp
      subst hx'
      have hx : r[toQ r]? = some 34 := hx
      rw [List.take_succ_cons, List.take_add_one, hx]
      show q34 ([34] ++ (r.take _ ++ [34])) % 2 = 0
      rw [q34_app, q34_app, q34_none n1]
      rfl
    · cases h
  rw [if_neg h3] at h
  split at h
  · cases h
    show q34 [c] % 2 = 0
    rw [q34_none (fun z => h3 (List.mem_singleton.mp z).symm)]
  · cases h
theorem lex_even {l : List Nat} {o : Option (List Tok)} (h : Lex l o) : o ≠ none → q34 l % 2 = 0 := by
  induction h with
  | nil => exact fun _ => rfl
  | sp _ ih =>
    intro h
    show q34 ([32] ++ _) % 2 = 0
    rw [q34_app]
    have := ih h
    have e : q34 [32] = 0 := rfl
    omega
  | bad _ _ => exact fun h => absurd rfl h
  | @tok c r t k o _ e _ ih =>
    intro h
    have h1 := lexC_even e
    have h2 := ih (fun z => h (by rw [z]; rfl))
    have e := q34_app ((c :: r).take k) ((c :: r).drop k)
    rw [List.take_append_drop] at e
    omega

/-! ### texts that are joined -/
/-- a token of the law's menu, spelled -/
def spell : Tok → List Nat
  | .word l => l
  | .num n => numT n
  | .str l => [34] ++ l ++ [34]
  | .sign c => [c]
/-- a token that is well made -/
def good : Tok → Prop
  | .word l => l ≠ [] ∧ l.length ≤ 6 ∧ ∀ c ∈ l, c ∈ LET
  | .num n => n ≤ 99999
  | .str l => l.length ≤ 20 ∧ ∀ c ∈ l, mayB c = true
  | .sign c => c ∈ SGN
/-- what may follow a token -/
def apart : Tok → List Nat → Prop
  | .word _, l => ∀ c r, l = c :: r → c ∉ LET
  | .num _, l => ∀ c r, l = c :: r → c ∉ DIG
  | _, _ => True
theorem run_all {cs a b : List Nat} (ha : ∀ c ∈ a, c ∈ cs) (hb : ∀ c r, b = c :: r → c ∉ cs) : run cs (a ++ b) = a.length := by
  unfold run
  rw [List.takeWhile_append_of_pos (fun c hc => decide_eq_true (ha c hc)), List.length_append]
  cases b with
  | nil => simp
  | cons c r => rw [List.takeWhile_cons, if_neg (by simpa using hb c r rfl)]; simp
theorem digits_len : ∀ (k m : Nat), m < 10 ^ (k + 1) → (Nat.toDigits 10 m).length ≤ k + 1
  | k, m, h => by
    by_cases hm : m < 10
    · rw [Nat.toDigits_of_lt_base hm]
      exact Nat.le_add_left _ _
    · cases k with
      | zero => exact absurd h hm
      | succ k =>
        have lt : m % 10 < 10 := Nat.mod_lt m (by decide)
        have t : Nat.toDigits 10 (m / 10) ++ Nat.toDigits 10 (m % 10) = Nat.toDigits 10 (10 * (m / 10) + m % 10) := Nat.toDigits_append_toDigits (by decide) (by omega) lt
        rw [Nat.div_add_mod] at t
        rw [← t, List.length_append, Nat.toDigits_of_lt_base lt]
        have := digits_len k (m / 10) (by rw [Nat.pow_succ] at h; omega)
        show (Nat.toDigits 10 (m / 10)).length + 1 ≤ k + 1 + 1
        omega
theorem numT_eq (n : Nat) : numT n = (Nat.toDigits 10 n).map Char.toNat := PySem.W.KIN.signs_num n
theorem numT_dig {n : Nat} (h : n ≤ 99999) : numT n ≠ [] ∧ (numT n).length ≤ 5 ∧ (∀ c ∈ numT n, c ∈ DIG) ∧ val (numT n) = n := by
  rw [numT_eq]
  refine ⟨fun e => ?_, ?_, fun c hc => ?_, PySem.W.KIN.val_back n⟩
  · have := PySem.W.KIN.val_back n
    have q := List.map_eq_nil_iff.mp e
    have l := toDigits_len_ge 10 n
    rw [q] at l
    exact absurd l (by decide)
  · rw [List.length_map]
    exact digits_len 4 n (by omega)
  · obtain ⟨ch, hch, e⟩ := List.mem_map.mp hc
    have r := PyProof.Rows.digit_range (Nat.isDigit_of_mem_toDigits (by decide) (by decide) hch)
    have hD : ∀ d, 48 ≤ d → d ≤ 57 → d ∈ DIG := by
      intro d h1 h2
      have : ∀ k, k < 10 → 48 + k ∈ DIG := by decide
      have q := this (d - 48) (by omega)
      rw [show 48 + (d - 48) = d by omega] at q
      exact q
    rw [← e]
    exact hD _ r.1 r.2
theorem let_dig {c : Nat} (h : c ∈ DIG) : c ∉ LET := fun z => by
  have : ∀ c ∈ DIG, c ∉ LET := by decide
  exact this c h z
theorem take_all {a b : List Nat} : (a ++ b).take a.length = a := List.take_left' rfl
theorem lex_spell {t : Tok} {b : List Nat} (g : good t) (ap : apart t b) : ∃ c r, spell t ++ b = c :: r ∧ c ≠ 32 ∧ lexC c r = some (t, (spell t).length) := by
  cases t with
  | word l =>
    obtain ⟨h1, h2, h3⟩ := g
    cases l with
    | nil => exact absurd rfl h1
    | cons c r =>
      have hc : c ∈ LET := h3 c List.mem_cons_self
      refine ⟨c, r ++ b, rfl, fun z => absurd hc (by rw [z]; decide), ?_⟩
      unfold lexC
      have e : run LET (c :: (r ++ b)) = (c :: r).length := run_all (a := c :: r) h3 ap
      rw [if_pos hc, e, if_pos h2]
      show some (Tok.word (((c :: r) ++ b).take (c :: r).length), _) = _
      rw [take_all]
      rfl
  | num n =>
    obtain ⟨h1, h2, h3, h4⟩ := numT_dig (show n ≤ 99999 from g)
    show ∃ c r, numT n ++ b = c :: r ∧ c ≠ 32 ∧ lexC c r = some (Tok.num n, (numT n).length)
    obtain ⟨l, hl⟩ : ∃ l, l = numT n := ⟨_, rfl⟩
    rw [← hl] at h1 h2 h3 h4 ⊢
    cases l with
    | nil => exact absurd rfl h1
    | cons c r =>
      have hc : c ∈ DIG := h3 c List.mem_cons_self
      refine ⟨c, r ++ b, rfl, fun z => absurd hc (by rw [z]; decide), ?_⟩
      unfold lexC
      have e : run DIG (c :: (r ++ b)) = (c :: r).length := run_all (a := c :: r) h3 ap
      have e2 : (c :: (r ++ b)).take (c :: r).length = c :: r := take_all (a := c :: r) (b := b)
      rw [if_neg (let_dig hc), if_pos hc, e, e2, h4, if_pos ⟨h2, hl⟩]
  | str l =>
    obtain ⟨h1, h2⟩ := g
    refine ⟨34, l ++ [34] ++ b, rfl, by decide, ?_⟩
    unfold lexC
    have n34 : ∀ c ∈ l, (c != 34) = true := fun c hc => by
      have := h2 c hc
      unfold mayB at this
      have := of_decide_eq_true this
      simp [this.2.2.2.1]
    have e : toQ (l ++ [34] ++ b) = l.length := by
      unfold toQ
      rw [List.append_assoc, List.takeWhile_append_of_pos n34, List.length_append]
      show l.length + (List.takeWhile _ (34 :: b)).length = _
      rw [List.takeWhile_cons, if_neg (by decide)]
      rfl
    have e2 : (l ++ [34] ++ b).take l.length = l := by rw [List.append_assoc]; exact take_all
    rw [if_neg (by decide), if_neg (by decide), if_pos rfl, e, e2, if_pos ⟨by simp, h1, List.all_eq_true.mpr h2⟩]
    show some (Tok.str l, l.length + 2) = some (Tok.str l, ([34] ++ l ++ [34]).length)
    simp
  | sign c =>
    have hs : c ∈ SGN := g
    have hd : ∀ c ∈ SGN, c ∉ LET ∧ c ∉ DIG ∧ c ≠ 34 ∧ c ≠ 32 := by decide
    obtain ⟨h1, h2, h3, h4⟩ := hd c hs
    refine ⟨c, b, rfl, h4, ?_⟩
    unfold lexC
    rw [if_neg h1, if_neg h2, if_neg h3, if_pos hs]
    rfl

/-- tokens with gaps of blanks behind them -/
def joined : List (Tok × Nat) → List Nat
  | [] => []
  | (t, g) :: r => spell t ++ List.replicate g 32 ++ joined r
/-- where a gap must stand -/
def gapped : List (Tok × Nat) → Prop
  | (t, g) :: (u, h) :: r => (g = 0 → apart t (spell u ++ (List.replicate h 32 ++ joined r))) ∧ gapped ((u, h) :: r)
  | _ => True
theorem lex_blanks {l : List Nat} {o : Option (List Tok)} (h : Lex l o) : ∀ g, Lex (List.replicate g 32 ++ l) o
  | 0 => h
  | g + 1 => by
    rw [List.replicate_succ]
    exact .sp (lex_blanks h g)
/-- a joined text is split into its tokens, and what stands behind is split as it is -/
theorem lex_joined {tail : List Nat} {o : Option (List Tok)} (ht : Lex tail o) (hs : ∀ c r, tail = c :: r → c = 32) :
    ∀ (l : List (Tok × Nat)), (∀ p ∈ l, good p.1) → gapped l → Lex (joined l ++ tail) (o.map (l.map (·.1) ++ ·))
  | [], _, _ => by
    have e : (o.map (([] : List (Tok × Nat)).map (·.1) ++ ·)) = o := by cases o <;> rfl
    rw [e]
    exact ht
  | (t, g) :: r, hg, hp => by
    have hr : Lex (joined r ++ tail) (o.map (r.map (·.1) ++ ·)) := lex_joined ht hs r (fun p h => hg p (List.mem_cons_of_mem _ h)) (by cases r with | nil => trivial | cons a b => exact hp.2)
    have ap : apart t (List.replicate g 32 ++ (joined r ++ tail)) := by
      have sp : ∀ l : List Nat, apart t (32 :: l) := fun l => by
        cases t with
        | word _ => exact fun c r e => by cases e; decide
        | num _ => exact fun c r e => by cases e; decide
        | str _ => trivial
        | sign _ => trivial
      cases g with
      | succ g => exact sp _
      | zero =>
        cases r with
        | nil =>
          cases tail with
          | nil => cases t <;> first | trivial | exact fun c r e => by cases e
          | cons c q => rw [hs c q rfl]; exact sp _
        | cons a b =>
          obtain ⟨u, h⟩ := a
          have q := hp.1 rfl
          show apart t (spell u ++ List.replicate h 32 ++ joined b ++ tail)
          have ne : spell u ≠ [] := by
            have gu := hg (u, h) (by simp)
            cases u with
            | word l => exact gu.1
            | num n => exact (numT_dig gu).1
            | str l => exact fun z => by cases z
            | sign c => exact fun z => by cases z
          cases e : spell u with
          | nil => exact absurd e ne
          | cons c v =>
            rw [e] at q
            cases t with
            | word _ => exact fun c' r' e' => by cases e'; exact q c _ rfl
            | num _ => exact fun c' r' e' => by cases e'; exact q c _ rfl
            | str _ => trivial
            | sign _ => trivial
    obtain ⟨c, v, e1, e2, e3⟩ := lex_spell (hg (t, g) List.mem_cons_self) ap
    have e0 : joined ((t, g) :: r) ++ tail = spell t ++ (List.replicate g 32 ++ (joined r ++ tail)) := by
      show spell t ++ List.replicate g 32 ++ joined r ++ tail = _
      simp only [List.append_assoc]
    rw [e0, e1]
    have e4 : (c :: v).drop (spell t).length = List.replicate g 32 ++ (joined r ++ tail) := by
      rw [← e1]
      exact List.drop_left' rfl
    have := Lex.tok e2 e3 (by rw [e4]; exact lex_blanks hr g)
    cases o with
    | none => exact this
    | some ts => exact this
end K1

set_option maxRecDepth 100000
set_option maxHeartbeats 4000000
namespace K1
open PySem PySem.Spec PyProof.Rows L2 GD
/-! ### the text -/
def topS (i : Nat) : Stmt := PySem.Challenge.pw_sameasnew_k44_any_block_is_read_so.main.body.getD i (.Pass ⟨0, 0, 0, 0⟩)
abbrev sCell : Stmt := topS 9
abbrev sDigits : Stmt := topS 10
abbrev sDraw : Stmt := topS 11
/-- what the top leaves to the built-ins -/
structure Txt (K : PySem.W.Frag) (mg : Str → Option Value) : Prop where
  len : mg "len" = none
  range : mg "range" = none
  bint : mg "int" = none
  blist : mg "list" = none
  repr : mg "repr" = none
def Box (H : Hp) (b d : Addr) (ds : List Int) (at_ : Nat) : Prop :=
  H b = some (.lst [.ref d, .int at_]) ∧ H d = some (.lst (ds.map V.int)) ∧ ds.length ≤ 4000
theorem Box.ne {H : Hp} {b d : Addr} {ds : List Int} {at_ : Nat} (h : Box H b d ds at_) : d ≠ b := fun e => by
  obtain ⟨h1, h2, _⟩ := h
  rw [e, h1] at h2
  have q : [V.ref d, V.int at_] = ds.map V.int := by
    have := Option.some.inj h2
    injection this
  cases ds with
  | nil => cases q
  | cons x r => cases q
section
variable {P : Program} {w : World} {K : PySem.W.Frag} {mg : Str → Option Value} {base : Heap}
def spCell (K : PySem.W.Frag) : Sp := fun vs H Q _ => ∃ (a : Addr) (ns : List Int) (k : Nat), vs = [.ref a, .int k] ∧ SqL K H a (ns.map V.int) ∧ ∀ v : Int, Q (.int v) H
theorem scCell : FnScope ["script", "k"] ["script", "k"] (defScope sCell) := ⟨rfl, rfl, rfl, by decide +kernel, rfl, by decide +kernel, by decide +kernel⟩
theorem ok_cell {f : Addr} {fd : FuncData} (F : Fun K "_law_cell" "_law_cell" sCell f fd) (T : Txt K mg) : FnOk P w K mg base CX0 1 f fd ["script", "k"] (spCell K) := by
  have sc := scCell
  refine F.ok sc (fun vs H Q E h => ?_) (fun cdv A outer s H vs Q E hr h => ?_)
  · obtain ⟨a, ns, k, rfl, _⟩ := h
    rfl
  · obtain ⟨a, ns, k, rfl, hS, q⟩ := h
    refine ⟨_, (pss_cons (ps_if (pt_cmpR op_lt (pv 1) (pe_callB call_len_seq (by rfl) T.len (by decide +kernel) (pa_cons (pv 0) pa_nil)) (nomark _))
      (pss_one (ps_ret (pe_ix ix_list (pv 0) (pv 1) (fun _ _ => rfl)))) pss_nil)
      (pss_one (ps_ret pe_int))), ?_⟩
    refine ⟨_, rfl, _, rfl, a, _, rfl, .inl hS, _, _, rfl, rfl, _, rfl, ite2 (fun e => ?_) (fun e => ?_)⟩
    · have hk : k < ns.length := by
        have := of_decide_eq_true e
        rw [List.length_map] at this
        omega
      exact ⟨_, rfl, _, rfl, a, _, _, .int ns[k], rfl, rfl, hS, atI_nat (by rw [List.getElem?_map, List.getElem?_eq_getElem hk]; rfl), q _⟩
    · exact q 0
def spDraw : Sp := fun vs H Q _ => ∃ (b d : Addr) (ds : List Int) (at_ : Nat) (m : Int), vs = [.ref b, .int m] ∧ Box H b d ds at_ ∧ 0 < m ∧
  ∀ r : Int, 0 ≤ r → r < m → Q (.int r) (upd H b (.lst [.ref d, .int ((at_ + 1 : Nat) : Int)]))
theorem scDraw : FnScope ["box", "many", "at"] ["box", "many"] (defScope sDraw) := ⟨rfl, rfl, rfl, by decide +kernel, rfl, by decide +kernel, by decide +kernel⟩
theorem ok_draw {f : Addr} {fd : FuncData} (F : Fun K "_law_draw" "_law_draw" sDraw f fd) (T : Txt K mg) : FnOk P w K mg base CX0 1 f fd ["box", "many"] spDraw := by
  have sc := scDraw
  refine F.ok sc (fun vs H Q E h => ?_) (fun cdv A outer s H vs Q E hr h => ?_)
  · obtain ⟨b, d, ds, at_, m, rfl, _⟩ := h
    rfl
  · obtain ⟨b, d, ds, at_, m, rfl, hB, hm, q⟩ := h
    refine ⟨_, (pss_cons (ps_set (i := 2) sc.nd rfl (.inl rfl) (pe_ix ix_list (pv 0) pe_int (fun _ _ => rfl)))
      (pss_cons (ps_asg (pe_op op_add (pv 2) pe_int) (pg_sub (pv 0) pe_int set_list))
      (pss_cons (ps_if (pt_cmpR op_lt (pv 2) (pe_callB call_len_seq (by rfl) T.len (by decide +kernel) (pa_cons (pe_ix ix_list (pv 0) pe_int (fun _ _ => rfl)) pa_nil)) (nomark _))
      (pss_one (ps_ret (pe_op op_mod (pe_callTy call_int1 (by rfl) T.bint (by decide +kernel) (pa_cons (pe_ix ix_list (pe_ix ix_list (pv 0) pe_int (fun _ _ => rfl)) (pv 2) (fun _ _ => rfl)) pa_nil)) (pv 1)))) pss_nil)
      (pss_one (ps_ret (pe_op op_mod (pe_callTy call_int1 (by rfl) T.bint (by decide +kernel) (pa_cons (pe_op op_add (pe_op op_mul (pv 2) pe_int) pe_int) pa_nil)) (pv 1))))))), ?_⟩
    obtain ⟨h1, h2, h3⟩ := hB
    have nd : d ≠ b := Box.ne ⟨h1, h2, h3⟩
    refine ⟨_, rfl, b, _, 1, .int at_, rfl, rfl, SqL.of h1, atI_nat (j := 1) rfl, ?_⟩
    refine ⟨_, rfl, _, _, rfl, rfl, _, rfl, b, _, 1, 1, rfl, rfl, h1, rfl, ?_⟩
    have e1 : upd H b (.lst ([V.ref d, V.int at_].set 1 (.int ((at_ : Int) + 1)))) b = some (.lst [.ref d, .int ((at_ + 1 : Nat) : Int)]) := upd_same
    have e2 : upd H b (.lst ([V.ref d, V.int at_].set 1 (.int ((at_ : Int) + 1)))) d = some (.lst (ds.map V.int)) := by rw [upd_ne nd]; exact h2
    refine ⟨_, rfl, _, rfl, b, _, 0, .ref d, rfl, rfl, SqL.of e1, atI_nat (j := 0) rfl, d, _, rfl, .inl (SqL.of e2), _, _, rfl, rfl, _, rfl, ite2 (fun e => ?_) (fun e => ?_)⟩
    · have hk : at_ < ds.length := by
        have := of_decide_eq_true e
        rw [List.length_map] at this
        omega
      refine ⟨_, rfl, b, _, 0, .ref d, rfl, rfl, SqL.of e1, atI_nat (j := 0) rfl, _, rfl, d, _, _, .int ds[at_], rfl, rfl, SqL.of e2, atI_nat (by rw [List.getElem?_map, List.getElem?_eq_getElem hk]; rfl), .inl ⟨_, rfl, ?_⟩⟩
      exact ⟨_, rfl, _, _, rfl, rfl, hm, q _ (Int.emod_nonneg _ (by omega)) (Int.emod_lt_of_pos _ hm)⟩
    · refine ⟨_, rfl, _, _, rfl, rfl, .inr (by decide), _, _, rfl, rfl, .inl ⟨_, rfl, ?_⟩⟩
      exact ⟨_, rfl, _, _, rfl, rfl, hm, q _ (Int.emod_nonneg _ (by omega)) (Int.emod_lt_of_pos _ hm)⟩
end
end K1

set_option maxRecDepth 100000
set_option maxHeartbeats 4000000
namespace K1
open PySem PySem.Spec PyProof.Rows L2 GD
section
variable {P : Program} {w : World} {K : PySem.W.Frag} {mg : Str → Option Value} {base : Heap}

theorem snoc_ints (ds : List Int) (x : Int) : ds.map V.int ++ [V.int x] = (ds ++ [x]).map V.int := by rw [List.map_append]; rfl
theorem Same.lst {H H1 : Hp} {D : Addr} {o : HO} (s : Same H H1) (n : H D = none) : Same H (upd H1 D o) := fun b u e => by
  rw [upd_ne (ne_of_none e n)]
  exact s b u e

def spDigits (K : PySem.W.Frag) : Sp := fun vs H Q _ => ∃ (a : Addr) (ns : List Int), vs = [.ref a, .int 0, .int 63] ∧ SqL K H a (ns.map V.int) ∧
  ∀ (H' : Hp) (D : Addr) (ds : List Int), Same H H' → H D = none → H' D = some (.lst (ds.map V.int)) → ds.length ≤ 4000 → Q (.ref D) H'
theorem scDigits : FnScope ["script", "first", "last", "digits", "k", "cell", "turn", "seed"] ["script", "first", "last"] (defScope sDigits) := ⟨rfl, rfl, rfl, by decide +kernel, rfl, by decide +kernel, by decide +kernel⟩
theorem ok_digits {f fc : Addr} {fd fdc : FuncData} (F : Fun K "_law_digits" "_law_digits" sDigits f fd) (T : Txt K mg) (FC : FnOk P w K mg base CX0 1 fc fdc ["script", "k"] (spCell K))
    (mc : mg "_law_cell" = some (.ref fc)) (kc : PySem.W.keepIn K (.ref fc) = true) (bc : Binds K fdc ["script", "k"] []) : FnOk P w K mg base CX0 2 f fd ["script", "first", "last"] (spDigits K) := by
  have sc := scDigits
  refine F.ok sc (fun vs H Q E h => ?_) (fun cdv A outer s H vs Q E hr h => ?_)
  · obtain ⟨a, ns, rfl, _⟩ := h
    rfl
  · obtain ⟨a, ns, rfl, hS, q⟩ := h
    refine ⟨_, (pss_cons (ps_set (i := 3) sc.nd rfl (.inl rfl) (pe_lst pa_nil))
(pss_cons (ps_for PassesOwn.never rfl (pi_range2 rfl T.range (pa_cons (pv 1) (pa_cons (pv 2) pa_nil))) (pg_name (i := 4) sc.nd rfl (.inl rfl))
(pss_cons (ps_set (i := 5) sc.nd rfl (.inl rfl) (pe_call FC hr (by rfl) mc kc bc .nil pass0 (pa_cons (pv 0) (pa_cons (pv 4) pa_nil))))
(C8.pss_cut (ps_if (pt_cmpR op_lt (pv 5) pe_int (nomark _))
(pss_one (ps_set (i := 5) sc.nd rfl (.inl rfl) (pe_op op_sub pe_int (pe_op op_mul pe_int (pv 5))))) pss_nil)
(pss_one (ps_if (pt_cmpR op_ge (pv 5) pe_int (nomark _))
(pss_one (ps_for PassesOwn.never rfl (pi_range1 rfl T.range (pa_cons pe_int pa_nil)) (pg_name (i := 6) sc.nd rfl (.inl rfl))
(pss_one (ps_if (pt_cmpR op_gt (pv 5) pe_int (nomark _))
(pss_cons (ps_expr (pe_bm PySem.F.plainAttrs_list PySem.F.slot_list_append PySem.F.type_list_append mt_append (pv 3) (pa_cons (pe_op op_mod (pe_callTy call_int1 (by rfl) T.bint (by decide +kernel) (pa_cons (pv 5) pa_nil)) pe_int) pa_nil)))
(pss_one (ps_set (i := 5) sc.nd rfl (.inl rfl) (pe_op op_fdiv (pv 5) pe_int)))) pss_nil)))) (pss_cons (ps_set (i := 7) sc.nd rfl (.inl rfl) (pe_op op_mod (pe_callTy call_int1 (by rfl) T.bint (by decide +kernel) (pa_cons (pe_op op_add (pe_op op_add (pe_op op_mul (pv 5) pe_int) (pe_op op_mul (pv 4) pe_int)) pe_int) pa_nil)) pe_int))
(pss_one (ps_for PassesOwn.never rfl (pi_range1 rfl T.range (pa_cons pe_int pa_nil)) (pg_name (i := 6) sc.nd rfl (.inl rfl))
(pss_cons (ps_set (i := 7) sc.nd rfl (.inl rfl) (pe_op op_mod (pe_callTy call_int1 (by rfl) T.bint (by decide +kernel) (pa_cons (pe_op op_add (pe_op op_add (pe_op op_mul (pv 7) pe_int) (pe_op op_mul pe_int (pv 6))) pe_int) pa_nil)) pe_int))
(pss_one (ps_expr (pe_bm PySem.F.plainAttrs_list PySem.F.slot_list_append PySem.F.type_list_append mt_append (pv 3) (pa_cons (pe_op op_mod (pe_callTy call_int1 (by rfl) T.bint (by decide +kernel) (pa_cons (pe_op op_fdiv (pv 7) pe_int) pa_nil)) pe_int) pa_nil)))))))))))))
(pss_one (ps_ret (pv 3))))), ?_⟩
    refine ⟨Nat.zero_le _, fun D hD => ?_⟩
    refine ⟨_, rfl, _, rfl, 0, 63, rfl, ⟨by decide, by decide, by decide, by decide⟩, for_range (lo := 0) (n := 63) (fun i σ H' => ∃ (ds : List Int) (y4 y5 y6 y7 : Option V), σ = [some (.ref a), some (.int 0), some (.int 63), some (.ref D), y4, y5, y6, y7] ∧ Same H H' ∧ H' D = some (.lst (ds.map V.int)) ∧ ds.length ≤ 60 * i)
      ⟨[], none, none, none, none, rfl, Same.lst (Same.refl H) hD, upd_same, Nat.zero_le _⟩ ?_ ?_⟩
    · rintro i σ H1 hi ⟨ds, y4, y5, y6, y7, rfl, s1, e1, l1⟩
      refine ⟨_, rfl, _, rfl, a, ns, i, by rw [Int.zero_add]; rfl, s1.seq hS, fun c => ?_⟩
      refine ⟨fun σ' H' => ∃ c : Int, σ' = [some (.ref a), some (.int 0), some (.int 63), some (.ref D), some (.int (0 + (i : Nat))), some (.int c), y6, y7] ∧ H' = H1, ⟨_, rfl, _, _, rfl, rfl, _, rfl, ite2 (fun _ => ?_) (fun _ => ?_)⟩, ?_⟩
      · exact ⟨_, rfl, _, _, rfl, rfl, .inl (by decide), _, _, rfl, rfl, _, rfl, rfl⟩
      · exact ⟨_, rfl, rfl⟩
      · rintro σ' H' ⟨c, rfl, rfl⟩
        have big : ∀ {n : Nat}, n ≤ 5000 → n < sizeLine := fun h => Nat.lt_of_le_of_lt h (by decide)
        refine ⟨_, rfl, _, _, rfl, rfl, _, rfl, ite2 (fun _ => ?_) (fun _ => ?_)⟩
        · refine ⟨_, rfl, by decide, by decide, for_range (lo := 0) (n := 60) (fun j σ H' => ∃ (ds2 : List Int) (c2 : Int) (y6 : Option V), σ = [some (.ref a), some (.int 0), some (.int 63), some (.ref D), some (.int (0 + (i : Nat))), some (.int c2), y6, y7] ∧ Same H H' ∧ H' D = some (.lst (ds2.map V.int)) ∧ ds2.length ≤ 60 * i + j)
            ⟨ds, c, y6, rfl, s1, e1, l1⟩ ?_ ?_⟩
          · rintro j σ H2 hj ⟨ds2, c2, y6, rfl, s2, e2, l2⟩
            refine ⟨_, rfl, _, _, rfl, rfl, _, rfl, ite2 (fun _ => ?_) (fun _ => ?_)⟩
            · refine ⟨_, rfl, .inl ⟨rfl, _, SqL.of e2⟩, _, rfl, .inl ⟨_, rfl, _, _, rfl, rfl, (by show (0 : Int) < 1000; decide), D, _, _, rfl, rfl, e2, ?_, ?_⟩⟩
              · rw [List.length_map]
                exact big (by omega)
              · refine ⟨_, rfl, _, _, rfl, rfl, ⟨by decide, by decide⟩, ds2 ++ [c2 % 1000], _, _, rfl, Same.lst s2 hD, ?_, ?_⟩
                · rw [upd_same, snoc_ints]
                · rw [List.length_append, List.length_singleton]
                  omega
            · exact ⟨ds2, c2, _, rfl, s2, e2, by omega⟩
          · rintro σ H2 ⟨ds2, c2, y6, rfl, s2, e2, l2⟩
            exact ⟨ds2, _, _, _, _, rfl, s2, e2, by omega⟩
        · refine ⟨_, rfl, _, _, rfl, rfl, .inr (by decide), _, rfl, _, _, rfl, rfl, .inr (by decide), _, _, rfl, rfl, _, _, rfl, rfl, .inl ⟨_, rfl, _, _, rfl, rfl, (by show (0 : Int) < 2147483399; decide), ?_⟩⟩
          refine ⟨_, rfl, by decide, by decide, for_range (lo := 0) (n := 12) (fun j σ H' => ∃ (ds2 : List Int) (c2 : Int) (y6 : Option V), σ = [some (.ref a), some (.int 0), some (.int 63), some (.ref D), some (.int (0 + (i : Nat))), some (.int c), y6, some (.int c2)] ∧ Same H H' ∧ H' D = some (.lst (ds2.map V.int)) ∧ ds2.length ≤ 60 * i + j)
            ⟨ds, _, y6, rfl, s1, e1, l1⟩ ?_ ?_⟩
          · rintro j σ H2 hj ⟨ds2, c2, y6, rfl, s2, e2, l2⟩
            refine ⟨_, rfl, _, _, rfl, rfl, .inr (by decide), _, rfl, _, _, rfl, rfl, .inl (by decide), _, _, rfl, rfl, _, _, rfl, rfl, .inl ⟨_, rfl, _, _, rfl, rfl, (by show (0 : Int) < 2147483563; decide), ?_⟩⟩
            refine ⟨_, rfl, .inl ⟨rfl, _, SqL.of e2⟩, _, rfl, _, _, rfl, rfl, ⟨by decide, by decide⟩, .inl ⟨_, rfl, _, _, rfl, rfl, (by show (0 : Int) < 1000; decide), D, _, _, rfl, rfl, e2, ?_, ?_⟩⟩
            · rw [List.length_map]
              exact big (by omega)
            · refine ⟨ds2 ++ [(c2 * 40014 + 5 * (0 + (j : Nat)) + 3) % 2147483563 / 1009 % 1000], _, _, rfl, Same.lst s2 hD, ?_, ?_⟩
              all_goals try dsimp only
              · rw [upd_same, snoc_ints]
              · rw [List.length_append, List.length_singleton]
                omega
          · rintro σ H2 ⟨ds2, c2, y6, rfl, s2, e2, l2⟩
            exact ⟨ds2, _, _, _, _, rfl, s2, e2, by omega⟩
    · rintro σ H1 ⟨ds, y4, y5, y6, y7, rfl, s1, e1, l1⟩
      exact ⟨_, rfl, q H1 D ds s1 hD e1 (by omega)⟩
end
end K1

set_option maxRecDepth 100000
set_option maxHeartbeats 4000000
namespace K1
open PySem PySem.Spec PyProof.Rows L2 GD
/-! ### the box -/
def Bx (b : Addr) (H H' : Hp) : Prop := ∀ c o, c ≠ b → H c = some o → H' c = some o
theorem Bx.refl (b : Addr) (H : Hp) : Bx b H H := fun _ _ _ h => h
theorem Bx.trans {b : Addr} {H H1 H2 : Hp} (x : Bx b H H1) (y : Bx b H1 H2) : Bx b H H2 := fun c o n h => y c o n (x c o n h)
theorem Bx.same {b : Addr} {H H' : Hp} (s : Same H H') : Bx b H H' := fun c o _ h => s c o h
theorem Box.draw {H : Hp} {b d : Addr} {ds : List Int} {n : Nat} (x : Box H b d ds n) : Box (upd H b (.lst [.ref d, .int ((n + 1 : Nat) : Int)])) b d ds (n + 1) :=
  ⟨upd_same, by rw [upd_ne x.ne]; exact x.2.1, x.2.2⟩
theorem Bx.draw {H : Hp} {b : Addr} {o : HO} : Bx b H (upd H b o) := fun c u n h => by rw [upd_ne n]; exact h
theorem Box.new {H : Hp} {b d l : Addr} {ds : List Int} {n : Nat} {o : HO} (x : Box H b d ds n) (h : H l = none) : Box (upd H l o) b d ds n :=
  ⟨by rw [upd_ne (ne_of_none x.1 h)]; exact x.1, by rw [upd_ne (ne_of_none x.2.1 h)]; exact x.2.1, x.2.2⟩
theorem Bx.new {H : Hp} {b l : Addr} {o : HO} (h : H l = none) : Bx b H (upd H l o) := Bx.same (Same.lst (Same.refl H) h)
theorem Bx.free {b c d : Addr} {H H' : Hp} {ds : List Int} {n : Nat} (x : Bx b H H') (y : Box H b d ds n) (y' : Box H' b d ds n ∨ H' b ≠ none) (h : H' c = none) : H c = none := by
  cases e : H c with
  | none => rfl
  | some o =>
    by_cases z : c = b
    · subst z
      rcases y' with y' | y'
      · rw [y'.1] at h
        cases h
      · exact absurd h y'
    · rw [x c o z e] at h
      cases h

/-- draws and new objects -/
structure Bs (b d : Addr) (ds : List Int) (H H' : Hp) (n : Nat) : Prop where
  bx : Bx b H H'
  box : Box H' b d ds n
  free : ∀ c, H' c = none → H c = none
theorem Bs.refl {b d : Addr} {ds : List Int} {H : Hp} {n : Nat} (h : Box H b d ds n) : Bs b d ds H H n := ⟨Bx.refl _ _, h, fun _ z => z⟩
theorem Bs.draw {b d : Addr} {ds : List Int} {H H' : Hp} {n : Nat} (h : Bs b d ds H H' n) : Bs b d ds H (upd H' b (.lst [.ref d, .int ((n + 1 : Nat) : Int)])) (n + 1) :=
  ⟨h.bx.trans Bx.draw, h.box.draw, fun c z => h.free c (by
    by_cases e : c = b
    · rw [e, upd_same] at z
      cases z
    · rw [upd_ne e] at z
      exact z)⟩
theorem Bs.new {b d l : Addr} {ds : List Int} {H H' : Hp} {n : Nat} {o : HO} (h : Bs b d ds H H' n) (nl : H' l = none) : Bs b d ds H (upd H' l o) n :=
  ⟨h.bx.trans (Bx.new nl), h.box.new nl, fun c z => h.free c (by
    by_cases e : c = l
    · rw [e]
      exact nl
    · rw [upd_ne e] at z
      exact z)⟩
theorem Bs.trans {b d : Addr} {ds : List Int} {H H1 H2 : Hp} {n m : Nat} (x : Bs b d ds H H1 n) (y : Bs b d ds H1 H2 m) : Bs b d ds H H2 m :=
  ⟨x.bx.trans y.bx, y.box, fun c z => x.free c (y.free c z)⟩
theorem Bs.nb {b d l : Addr} {ds : List Int} {H H' : Hp} {n : Nat} (h : Bs b d ds H H' n) (nl : H' l = none) : l ≠ b := fun z => by rw [z, h.box.1] at nl; cases nl
theorem idx {m : Nat} {r : Int} (h0 : 0 ≤ r) (h1 : r < (m : Int)) : ∃ j : Nat, r = (j : Int) ∧ j < m := ⟨r.toNat, by omega, by omega⟩
theorem le9 {n : Nat} (h : n ≤ 100) : n ≤ sizeLine := Nat.le_trans h (by decide)
end K1

set_option maxRecDepth 100000
set_option maxHeartbeats 4000000
/-! the pieces of a text -/
namespace K4
open PySem hiding Tok code
open PySem.Spec PyProof.Rows GD K1
open L2 hiding rest
abbrev sDec : Stmt := topS 6
abbrev sChOf : Stmt := topS 7
abbrev sLPieces : Stmt := topS 12
abbrev sLSigns : Stmt := topS 13
/-- the signs of the package -/
def CHS : Str := " !\"#$&'()*+,-./0123456789:;<=>?@ABCDEFGHIJKLMNOPQRSTUVWXYZ[\\]^_`abcdefghijklmnopqrstuvwxyz{|}~"
def isCh (c : Nat) : Bool := decide (32 ≤ c ∧ c ≤ 126 ∧ c ≠ 37)
theorem chs_le : ∀ x ∈ CHS.cps.toList, x ≤ 126 := by decide +kernel
theorem chs_tab : ∀ c ∈ List.range 127, decide (c ∈ CHS.cps.toList) = isCh c := by decide +kernel
theorem chs_eq (c : Nat) : decide (c ∈ CHS.cps.toList) = isCh c := by
  by_cases h : c < 127
  · exact chs_tab c (List.mem_range.mpr h)
  · rw [decide_eq_false fun z => h (Nat.lt_succ_of_le (chs_le c z))]
    exact (decide_eq_false fun z => h (by omega)).symm
theorem pe_gstr {X : Cx} {x z : Str} {t : PySem.Tok} {pos : Pos} (hg : Gl X x) (hm : X.mg x = some (.str z t)) (hd : (x == ("__debug__" : Str)) = false := by decide) : PE X (.Name x pos) (tC (.str z)) := pe_glob hg hm ⟨_, rfl⟩ hd
theorem pe_gint {X : Cx} {x : Str} {i : Int} {t : PySem.Tok} {pos : Pos} (hg : Gl X x) (hm : X.mg x = some (.int i t)) (hd : (x == ("__debug__" : Str)) = false := by decide) : PE X (.Name x pos) (tC (.int i)) := pe_glob hg hm ⟨_, rfl⟩ hd
def rLenK (K : PySem.W.Frag) : List V → Hp → VK → Prop := fun xs H Q => ∃ p ys, xs = [.ref p] ∧ (SqL K H p ys ∨ SqT K H p ys) ∧ Q (.int ys.length) H
theorem call_lenK {X : Cx} : CallR X (.builtin "len") (rLenK X.K) := call_len_seq
/-- a def that stands at its name -/
structure FO (P : Program) (w : World) (K : PySem.W.Frag) (mg : Str → Option Value) (base : Heap) (CX : CXT) (k : Nat) (x : Str) (ps : List Str) (sp : L2.Sp) (f : Addr) (fd : FuncData) : Prop where
  m : mg x = some (.ref f)
  kp : PySem.W.keepIn K (.ref f) = true
  b : Binds K fd ps []
  ok : FnOk P w K mg base CX k f fd ps sp
/-- more of what the top leaves to the built-ins, and its constants -/
structure Txt3 (mg : Str → Option Value) : Prop where
  btuple : mg "tuple" = none
  isinstance : mg "isinstance" = none
  enumerate : mg "enumerate" = none
  any : mg "any" = none
  all : mg "all" = none
  ord : mg "ord" = none
  BLOCK : ∃ t, mg "BLOCK" = some (.int 32 t)
  MARK : ∃ t, mg "MARK" = some (.int 83 t)
  HEAD : ∃ t, mg "HEAD" = some (.int 6 t)
  PIECE : ∃ t, mg "PIECE" = some (.int 24 t)
  CHARACTERS : ∃ t, mg "CHARACTERS" = some (.str CHS t)
theorem szle {n : Nat} (h : n ≤ 5000) : n ≤ sizeLine := Nat.le_trans h (by decide)
theorem szlt {n : Nat} (h : n ≤ 5000) : n < sizeLine := Nat.lt_of_le_of_lt h (by decide)
/-! ### the mathematics -/
def iv (l : List Int) : List V := l.map V.int
def codes (p : List Nat) : List Int := p.map fun c => ((c : Nat) : Int)
def enc (i many num : Int) (p : List Nat) : List Int := [83, i, many, num / 256, num % 256, (p.length : Int)] ++ codes p ++ List.replicate (25 - p.length) 0 ++ [83]
def piece (L : List Nat) (k : Nat) : List Nat := (L.drop (24 * k)).take 24
def cnt (L : List Nat) : Nat := (L.length + 23) / 24
def encR (num : Int) (L : List Nat) : List (List Int) := (List.range (cnt L)).map fun k => enc (k : Nat) (cnt L : Nat) num (piece L k)
theorem codes_len (p : List Nat) : (codes p).length = p.length := List.length_map _
theorem enc_len {i many num : Int} {p : List Nat} (h : p.length ≤ 24) : (enc i many num p).length = 32 := by
  unfold enc
  simp only [List.length_append, List.length_cons, List.length_nil, codes_len, List.length_replicate]
  omega
theorem piece_len (L : List Nat) (k : Nat) : (piece L k).length ≤ 24 := by
  unfold piece
  rw [List.length_take]
  omega
theorem iv_app (a b : List Int) : iv a ++ iv b = iv (a ++ b) := (List.map_append).symm
theorem rep_flat (n : Nat) (x : V) : (List.replicate n [x]).flatten = List.replicate n x := by
  induction n with
  | zero => rfl
  | succ n ih => rw [List.replicate_succ, List.replicate_succ, List.flatten_cons, ih]; rfl
theorem rep_iv (n : Nat) (x : Int) : List.replicate n (V.int x) = iv (List.replicate n x) := by
  unfold iv
  rw [List.map_replicate]
theorem one_cps (c : Nat) : ((⟨#[c]⟩ : Str).cps.getD 0 0 : Nat) = c := rfl
theorem getS {L : List Nat} {i c : Nat} (h : (S L).cps[i]? = some c) : L[i]? = some c := by
  have : L.toArray[i]? = some c := h
  simpa using this
theorem sfree {H H' : Hp} {p : Addr} (s : Same H H') (n : H' p = none) : H p = none := by
  cases e : H p with
  | none => rfl
  | some o => rw [s p o e] at n; cases n
theorem strans {H H1 H2 : Hp} (a : Same H H1) (b : Same H1 H2) : Same H H2 := fun p o e => b p o (a p o e)
theorem snew {H H1 : Hp} {D : Addr} {o : HO} (s : Same H H1) (n : H1 D = none) : Same H (upd H1 D o) := strans s (Same.lst (Same.refl H1) n)
/-- a written text, so and so often -/
theorem op_rep_str {X : Cx} : OpR X (binaryOp .Mult) (fun x y H Q => ∃ (z : Str) (n : Int), x = .str z ∧ y = .int n ∧ (decide (n < -(2 ^ 63 : Int)) || decide (n ≥ 2 ^ 63)) = false ∧
    ¬ ((z.length : Int) > (2 ^ 63 - 1) / n) ∧ Builtin.Str.tooLong (z.length * n.toNat) = false ∧ (n == 1 || z.length == 0) = false ∧ ¬ n < 1 ∧
    (⟨(List.replicate n.toNat z.cps).foldl (· ++ ·) #[]⟩ : Str).length ≤ sizeLine ∧ Q (.str ⟨(List.replicate n.toNat z.cps).foldl (· ++ ·) #[]⟩) H) := by
  intro pins s σ H x y v u Q I rx ry h
  obtain ⟨z, n, rfl, rfl, h1, h2, h3, h4, h5, h6, q⟩ := h
  obtain ⟨t, rfl⟩ := rx
  obtain ⟨t', rfl⟩ := ry
  refine PySem.P.mul_str h1 (fun _ _ => h2) (fun _ _ => h3) ?_
  rw [if_neg h5, if_neg (by rw [h4]; exact Bool.false_ne_true)]
  exact ⟨h6, ⟨.str _, H, I.tok _, ⟨_, rfl⟩, q⟩⟩
end K4

set_option maxRecDepth 100000
set_option maxHeartbeats 4000000
/-! encode_record -/
namespace K4
open PySem hiding Tok code
open PySem.Spec PyProof.Rows GD K1
open L2 hiding rest
theorem rg24 {n : Nat} (h : n ≤ 5000) : RgC 0 (n : Nat) 24 ((n + 23) / 24) := by
  have e : Builtin.Range.rangeSize 0 (n : Nat) 24 = (((n + 23) / 24 : Nat) : Int) := by
    rw [rangeSize_pos (by decide) (by omega)]
    omega
  refine ⟨by decide, by decide, ?_, e⟩
  have fl : ∀ i : Int, -(2 ^ 62) ≤ i → i < 2 ^ 62 → Builtin.Range.rangeFitsLong i = true := fun i h1 h2 => by
    unfold Builtin.Range.rangeFitsLong
    rw [decide_eq_true (by omega), decide_eq_true (by omega)]
    rfl
  unfold Builtin.Range.small
  rw [e, fl 0 (by decide) (by decide), fl _ (by omega) (by omega), fl 24 (by decide) (by decide), fl (((n + 23) / 24 : Nat) : Int) (by omega) (by omega), if_pos (by decide), fl _ (by omega) (by omega)]
  rw [Bool.or_true]
  rfl
/-- the list at v: blocks -/
def BlkV (H : Hp) (v : V) (b : List Int) : Prop := ∃ q, v = .ref q ∧ H q = some (.lst (iv b))
def Blks (H : Hp) : List V → List (List Int) → Prop := Paired (BlkV H)
theorem BlkV.same {H H' : Hp} (s : Same H H') {v : V} {b : List Int} (h : BlkV H v b) : BlkV H' v b := by
  obtain ⟨q, e, h⟩ := h
  exact ⟨q, e, s _ _ h⟩
theorem Blks.same {H H' : Hp} (s : Same H H') {vs : List V} {bs : List (List Int)} (h : Blks H vs bs) : Blks H' vs bs := by
  induction h with
  | nil => exact .nil
  | cons a _ ih => exact .cons (a.same s) ih
theorem Blks.len {H : Hp} {vs : List V} {bs : List (List Int)} (h : Blks H vs bs) : vs.length = bs.length := by
  induction h with
  | nil => rfl
  | cons _ _ ih => rw [List.length_cons, List.length_cons, ih]
theorem Blks.snoc {H : Hp} {vs : List V} {bs : List (List Int)} {v : V} {b : List Int} (h : Blks H vs bs) (k : BlkV H v b) : Blks H (vs ++ [v]) (bs ++ [b]) := by
  induction h with
  | nil => exact .cons k .nil
  | cons a _ ih => exact .cons a ih
theorem Blks.get {H : Hp} {vs : List V} {bs : List (List Int)} (h : Blks H vs bs) {i : Nat} {b : List Int} (e : bs[i]? = some b) : ∃ v, vs[i]? = some v ∧ BlkV H v b := by
  induction h generalizing i with
  | nil => simp at e
  | cons a _ ih =>
    cases i with
    | zero =>
      rw [List.getElem?_cons_zero] at e ⊢
      cases e
      exact ⟨_, rfl, a⟩
    | succ i =>
      rw [List.getElem?_cons_succ] at e ⊢
      exact ih e
/-- blocks at such places -/
def BlkD (Z : Addr → Prop) (H : Hp) : List V → List (List Int) → Prop := Paired fun v b => ∃ q, v = .ref q ∧ Z q ∧ H q = some (.lst (iv b))
theorem BlkD.blks {Z : Addr → Prop} {H : Hp} {vs : List V} {bs : List (List Int)} (h : BlkD Z H vs bs) : Blks H vs bs := by
  induction h with
  | nil => exact .nil
  | cons a _ ih =>
    obtain ⟨q, e, _, k⟩ := a
    exact .cons ⟨q, e, k⟩ ih
theorem BlkD.up {Z : Addr → Prop} {H H' : Hp} (s : ∀ q xs, Z q → H q = some (.lst xs) → H' q = some (.lst xs)) {vs : List V} {bs : List (List Int)} (h : BlkD Z H vs bs) : BlkD Z H' vs bs := by
  induction h with
  | nil => exact .nil
  | cons a _ ih =>
    obtain ⟨q, e, n, k⟩ := a
    exact .cons ⟨q, e, n, s _ _ n k⟩ ih
theorem BlkD.snoc {Z : Addr → Prop} {H : Hp} {vs : List V} {bs : List (List Int)} {q : Addr} {b : List Int} (h : BlkD Z H vs bs) (n : Z q) (k : H q = some (.lst (iv b))) : BlkD Z H (vs ++ [.ref q]) (bs ++ [b]) := by
  induction h with
  | nil => exact .cons ⟨q, rfl, n, k⟩ .nil
  | cons a _ ih => exact .cons a ih
theorem BlkD.z {Z : Addr → Prop} {H : Hp} {vs : List V} {bs : List (List Int)} (h : BlkD Z H vs bs) : ∀ q, V.ref q ∈ vs → Z q := by
  induction h with
  | nil => intro q hq; cases hq
  | cons a _ ih =>
    obtain ⟨q, rfl, n, _⟩ := a
    intro p hp
    rcases List.mem_cons.mp hp with e | hp
    · cases e
      exact n
    · exact ih p hp
theorem cut24 (L : List Nat) {k : Nat} (h : 24 * k ≤ L.length) : cutS (S L) (some ((24 * k : Nat) : Int)) (some ((24 * k + 24 : Nat) : Int)) = S (piece L k) := by
  unfold cutS piece
  rw [HT.sIx_nat, HT.sIx_nat, S_len, Nat.min_eq_left h, S_toList]
  have e : (L.drop (24 * k)).take (min (24 * k + 24) L.length - 24 * k) = (L.drop (24 * k)).take 24 := by
    by_cases h2 : 24 * k + 24 ≤ L.length
    · rw [Nat.min_eq_left h2, Nat.add_sub_cancel_left]
    · rw [List.take_of_length_le (by rw [List.length_drop]; omega), List.take_of_length_le (by rw [List.length_drop]; omega)]
  rw [e]
  rfl
theorem cnt_lt {L : List Nat} {k : Nat} (h : k < cnt L) : 24 * k ≤ L.length := by unfold cnt at h; omega
theorem range_get {n i : Nat} {α : Type} (f : Nat → α) (h : i < n) : ((List.range n).map f)[i]? = some (f i) := by
  rw [List.getElem?_map, List.getElem?_range h]
  rfl
theorem range_snoc {α : Type} (f : Nat → α) (n : Nat) : (List.range (n + 1)).map f = (List.range n).map f ++ [f n] := by
  rw [List.range_succ, List.map_append]
  rfl
end K4

set_option maxRecDepth 100000
set_option maxHeartbeats 4000000
/-! characters_of -/
namespace K4
open PySem hiding Tok code
open PySem.Spec PyProof.Rows GD K1
open L2 hiding rest
def chL : List Nat := CHS.cps.toList
theorem ch_mem {c : Nat} : c ∈ chL ↔ isCh c = true := by
  rw [← chs_eq c]
  exact decide_eq_true_iff.symm
/-- what the dict of signs has for a key, when the first j signs were put -/
def chAt (j : Nat) (i : Int) : Option V := if 0 ≤ i ∧ i.toNat ∈ chL.take j then some (.str ⟨#[i.toNat]⟩) else none
theorem chAt_step {j c : Nat} (h : chL[j]? = some c) (i : Int) : (if (Sum.inl i : Key) = Sum.inl ((c : Nat) : Int) then some (V.str ⟨#[c]⟩) else chAt j i) = chAt (j + 1) i := by
  unfold chAt
  rw [List.take_add_one, h]
  by_cases e : i = ((c : Nat) : Int)
  · subst e
    rw [if_pos rfl, if_pos ⟨by omega, List.mem_append.mpr (.inr (by rw [Int.toNat_natCast]; exact List.mem_cons_self))⟩, Int.toNat_natCast]
  · rw [if_neg fun z => e (Sum.inl.inj z)]
    by_cases k : 0 ≤ i ∧ i.toNat ∈ chL.take j
    · rw [if_pos k, if_pos ⟨k.1, List.mem_append.mpr (.inl k.2)⟩]
    · rw [if_neg k, if_neg fun z => ?_]
      rcases List.mem_append.mp z.2 with m | m
      · exact k ⟨z.1, m⟩
      · have m : i.toNat ∈ [c] := m
        have := List.mem_singleton.mp m
        omega
theorem chAt_all (i : Int) : chAt chL.length i = if 0 ≤ i ∧ isCh i.toNat = true then some (.str ⟨#[i.toNat]⟩) else none := by
  unfold chAt
  rw [List.take_length]
  by_cases k : 0 ≤ i ∧ i.toNat ∈ chL
  · rw [if_pos k, if_pos ⟨k.1, ch_mem.mp k.2⟩]
  · rw [if_neg k, if_neg fun z => k ⟨z.1, ch_mem.mpr z.2⟩]
theorem join_signs (l : List Nat) : Txt.join (Str.ofString "") (l.map fun c => (⟨#[c]⟩ : Str)) = S l := by
  rw [TL.join_eq]
  induction l with
  | nil => rfl
  | cons p r ih =>
    cases r with
    | nil => rfl
    | cons q r =>
      show S [p] ++ S [] ++ Str.join (Str.ofString "") ((q :: r).map fun c => (⟨#[c]⟩ : Str)) = S (p :: q :: r)
      rw [ih, S_app, S_app]
      rfl
def okc1 (c : Int) : Bool := decide (0 ≤ c) && isCh c.toNat
theorem okc1_iff {c : Int} : okc1 c = true ↔ 0 ≤ c ∧ isCh c.toNat = true := by
  unfold okc1
  rw [Bool.and_eq_true, decide_eq_true_iff]
/-- a dict's comprehension over a walk: Pv by the turn and the heap -/
theorem dc_it {J : It} {n : Nat} {G : Hp → Prop} {Y : Nat → Hp → V → Hp → Prop} (w : Walk J n G Y) {g : TG} {tt : TT} {tk tv : TE} {vs : List Nat} {σ : L2.St} {H1 : Hp} {D : Addr} {Qd : Hp → Prop}
    (Pv : Nat → Hp → Prop) (h0 : Pv 0 (upd H1 D (.dK []))) (hG : ∀ i H, i ≤ n → Pv i H → G H)
    (hs : ∀ i x H H', i < n → Pv i H → Y i H x H' → g x (wipe σ vs) H' fun σ2 H2 => wipe σ2 vs = wipe σ vs ∧ tt σ2 H2 fun b H3 =>
      if b = true then tk σ2 H3 fun y H4 => tv σ2 H4 fun z H5 => ∃ kvs k, y = kV k ∧ H5 D = some (.dK kvs) ∧ kvs.length < sizeLine ∧ Pv (i + 1) (upd H5 D (.dK (putK kvs k z))) else Pv (i + 1) H3) (hd : ∀ H, Pv n H → Qd H) :
    ∃ W : Nat → Nat → Hp → Prop, (∃ m, W 0 m (upd H1 D (.dK []))) ∧ ∀ i m H, W i m H → (J.stop i H ∧ Qd H) ∨
      (J.go i H ∧ ∃ Nx : Hp → Prop, (∀ H', Nx H' → ∃ m', m' < m ∧ W (i + 1) m' H') ∧ ∀ x H', J.yld i H x H' → g x (wipe σ vs) H' fun σ2 H2 => wipe σ2 vs = wipe σ vs ∧ tt σ2 H2 fun b H3 =>
        if b = true then tk σ2 H3 fun y H4 => tv σ2 H4 fun z H5 => ∃ kvs k, y = kV k ∧ H5 D = some (.dK kvs) ∧ kvs.length < sizeLine ∧ Nx (upd H5 D (.dK (putK kvs k z))) else Nx H3) := by
  refine ⟨fun i m H => i ≤ n ∧ m = n - i ∧ Pv i H, ⟨n, by omega, by omega, h0⟩, fun i m H hW => ?_⟩
  obtain ⟨hi, hm, pv⟩ := hW
  have hg := hG i H hi pv
  rcases Nat.lt_or_ge i n with lt | ge
  · exact .inr ⟨w.goes i H lt hg, Pv (i + 1), fun H' p => ⟨n - (i + 1), by omega, lt, rfl, p⟩, fun x H' y => hs i x H H' lt pv (w.yields i H x H' lt hg y)⟩
  · have en : i = n := by omega
    rw [en] at pv ⊢
    exact .inl ⟨w.stops H hg, hd H pv⟩
def okc (l : List Int) : Bool := l.all okc1
section
variable {P : Program} {w : World} {K : PySem.W.Frag} {mg : Str → Option Value} {base : Heap}
def chV (l : List Int) : V := if okc l = true then .str (S (l.map Int.toNat)) else .non
def spChOf (K : PySem.W.Frag) : L2.Sp := fun vs H Q _ => ∃ (a : Addr) (l : List Int), vs = [.ref a] ∧ SqL K H a (iv l) ∧ l.length ≤ 100 ∧ ∀ H', Same H H' → Q (chV l) H'
theorem scChOf : FnScope ["codes", "characters", "character", "code"] ["codes"] (defScope sChOf) := ⟨rfl, rfl, rfl, by decide +kernel, rfl, by decide +kernel, by decide +kernel⟩
theorem ok_chOf {f : Addr} {fd : FuncData} (F : Fun K "characters_of" "characters_of" sChOf f fd) (T : Txt K mg) (T3 : Txt3 mg) : FnOk P w K mg base CX0 1 f fd ["codes"] (spChOf K) := by
  have sc := scChOf
  obtain ⟨t2, gChs⟩ := T3.CHARACTERS
  refine F.ok sc (fun vs H Q E h => ?_) (fun cdv A outer s H vs Q E hr h => ?_)
  · obtain ⟨a, l, rfl, _⟩ := h
    rfl
  · obtain ⟨a, l, rfl, hS, hl, q⟩ := h
    refine ⟨_, (pss_cons (ps_set (i := 1) sc.nd rfl (Or.inr rfl) (pe_dc (own := [("character", 2)]) rfl sc.nd (pi_str (pe_gstr rfl gChs)) (blkOk_by (own := [("character", 2)]) (N := ["codes", "characters", "character", "code"]) (sc := defScope sChOf) (by decide +kernel)) (fun _ _ _ _ _ => (pg_name (i := 2) sc.nd rfl (Or.inl rfl))) (fun _ _ _ _ _ => pts_nil) (fun _ _ _ _ _ => (pe_callB call_ord (by rfl) T3.ord (by decide +kernel) (pa_cons (pv 2) pa_nil))) (fun _ _ _ _ _ => (pv 2))))
      (pss_cons (ps_if (pt_not (pt_val (pe_callB (cr_all rfl) (by rfl) T3.all (by decide +kernel) (pa_cons (pe_lc (own := [("code", 3)]) rfl sc.nd (pi_list (pv 0)) (blkOk_by (own := [("code", 3)]) (N := ["codes", "characters", "character", "code"]) (sc := defScope sChOf) (by decide +kernel)) (fun _ _ _ _ _ => (pg_name (i := 3) sc.nd rfl (Or.inl rfl))) (fun _ _ _ _ _ => pts_nil) (fun _ _ _ _ _ => (pe_cmp (pc_din (hu_of hr) (pv 3) (pv 1))))) pa_nil))))
      (pss_one (ps_ret pe_non))
      pss_nil)
      (pss_one (ps_ret (pe_join pe_str (pe_lc (own := [("code", 3)]) rfl sc.nd (pi_list (pv 0)) (blkOk_by (own := [("code", 3)]) (N := ["codes", "characters", "character", "code"]) (sc := defScope sChOf) (by decide +kernel)) (fun _ _ _ _ _ => (pg_name (i := 3) sc.nd rfl (Or.inl rfl))) (fun _ _ _ _ _ => pts_nil) (fun _ _ _ _ _ => (pe_dget (hu_of hr) (pv 1) (pv 3) (fun _ _ => rfl))))))))), ?_⟩
    refine ⟨_, rfl, fun D nD => ?_⟩
    have cs : CHS.cps.size = 94 := by decide +kernel
    refine dc_it (walk_str (z := CHS)) (fun j H' => Same H H' ∧ ∃ kvs : List (Key × V), H' D = some (.dK kvs) ∧ kvs.length ≤ j ∧ ∀ i : Int, valV kvs (.inl i) = chAt j i) ⟨Same.lst (Same.refl H) nD, [], upd_same, Nat.le_refl _, fun i => ?_⟩ (fun _ _ _ _ => trivial) (fun j x H1 H2 hj pv y => ?_) (fun H1 pv => ?_)
    · unfold chAt
      rw [if_neg fun z => by cases z.2]
      rfl
    · obtain ⟨rfl, c, hc, rfl⟩ := y
      obtain ⟨s1, kvs, eD, lk, hk⟩ := pv
      refine ⟨rfl, ?_⟩
      refine ⟨_, rfl, _, rfl, rfl, _, rfl, kvs, .inl ((c : Nat) : Int), rfl, eD, by rw [cs] at hj; exact szlt (by omega), Same.lst s1 nD, _, upd_same, ?_, fun i => ?_⟩
      · have := length_putK kvs (.inl ((c : Nat) : Int)) (V.str ⟨#[c]⟩)
        omega
      · rw [valV_put, hk]
        exact chAt_step (by rw [← Array.getElem?_toList] at hc; exact hc) i
    obtain ⟨s1, kvs, eD, lk, hk⟩ := pv
    have hk2 : ∀ i : Int, valV kvs (.inl i) = if 0 ≤ i ∧ isCh i.toNat = true then some (.str ⟨#[i.toNat]⟩) else none := fun i => by rw [← chAt_all]; exact hk i
    have hk3 : ∀ i : Int, (valV kvs (.inl i)).isSome = okc1 i := fun i => by
      rw [hk2]
      by_cases e : 0 ≤ i ∧ isCh i.toNat = true
      · rw [if_pos e, okc1_iff.mpr e]; rfl
      · rw [if_neg e]
        cases h : okc1 i
        · rfl
        · exact absurd (okc1_iff.mp h) e
    have nDa : ∀ H2, Same H1 H2 → SqL K H2 a (iv l) := fun H2 s => (strans s1 s).seq hS
    refine ⟨_, rfl, a, rfl, ⟨_, nDa _ (Same.refl _)⟩, fun E9 nE => ?_⟩
    refine lc_it (walk_list (K := K) (a := a) (xs := iv l)) (fun j H' => Same H1 H' ∧ H' E9 = some (.lst (((l.take j).map okc1).map V.bl))) ⟨Same.lst (Same.refl _) nE, upd_same⟩ (fun i H' _ pv => nDa _ pv.1) (fun j x H2 H3 hj pv y => ?_) (fun H2 pv => ?_)
    · obtain ⟨rfl, hx⟩ := y
      unfold iv at hx
      rw [List.getElem?_map, Option.map_eq_some_iff] at hx
      obtain ⟨i, hi, rfl⟩ := hx
      refine ⟨rfl, ?_⟩
      refine ⟨_, rfl, _, rfl, D, _, rfl, DGet.k (k := .inl i) (pv.1 _ _ eD), ?_⟩
      refine ⟨_, pv.2, ?_, Same.lst pv.1 nE, ?_⟩
      · rw [List.length_map, List.length_map, List.length_take]
        exact szlt (by omega)
      · rw [upd_same, List.take_add_one, hi, hk3, List.map_append, List.map_append]
        rfl
    have lv : (iv l).length = l.length := List.length_map _
    rw [lv, List.take_length] at pv
    obtain ⟨s2, eE⟩ := pv
    refine ⟨E9, l.map okc1, rfl, SqL.of eE, _, rfl, ?_⟩
    have ea : (l.map okc1).all id = okc l := by
      rw [List.all_map]
      rfl
    rw [ea]
    cases ho : okc l with
    | false =>
      refine iteT ?_
      have := q H2 (strans s1 s2)
      unfold chV at this
      rw [ho] at this
      exact this
    | true =>
      refine iteF ?_
      refine ⟨⟨_, rfl⟩, _, rfl, a, rfl, ⟨_, nDa _ s2⟩, fun G9 nG => ?_⟩
      refine lc_it (walk_list (K := K) (a := a) (xs := iv l)) (fun j H' => Same H2 H' ∧ H' G9 = some (.lst (((l.take j).map fun c => (⟨#[c.toNat]⟩ : Str)).map V.str))) ⟨Same.lst (Same.refl _) nG, upd_same⟩ (fun i H' _ pv => nDa _ (strans s2 pv.1)) (fun j x H3 H4 hj pv y => ?_) (fun H3 pv => ?_)
      · obtain ⟨rfl, hx⟩ := y
        unfold iv at hx
        rw [List.getElem?_map, Option.map_eq_some_iff] at hx
        obtain ⟨i, hi, rfl⟩ := hx
        have oi : okc1 i = true := List.all_eq_true.mp ho i (List.mem_of_getElem? hi)
        refine ⟨rfl, ?_⟩
        refine ⟨_, rfl, _, rfl, D, .str ⟨#[i.toNat]⟩, rfl, ?_, ?_⟩
        · have e9 := DGet.k (k := .inl i) (pv.1 _ _ (s2 _ _ eD))
          rw [hk2, if_pos (okc1_iff.mp oi)] at e9
          exact e9
        refine ⟨_, pv.2, ?_, Same.lst pv.1 nG, ?_⟩
        · rw [List.length_map, List.length_map, List.length_take]
          exact szlt (by omega)
        · rw [upd_same, List.take_add_one, hi, List.map_append, List.map_append]
          rfl
      rw [lv, List.take_length] at pv
      obtain ⟨s3, eG⟩ := pv
      refine ⟨_, G9, l.map fun c => (⟨#[c.toNat]⟩ : Str), rfl, rfl, .inl (SqL.of eG), ?_, ?_⟩
      · have h1 : ∀ l : List Int, ((l.map fun c => (⟨#[c.toNat]⟩ : Str)).map (·.length)).sum = l.length := fun l => by
          induction l with
          | nil => rfl
          | cons c r ih =>
            rw [List.map_cons, List.map_cons, List.sum_cons, ih, List.length_cons]
            show 1 + r.length = _
            omega
        rw [h1, List.length_map]
        show l.length + l.length * 0 ≤ _
        omega
      · have ej : (l.map fun c => (⟨#[c.toNat]⟩ : Str)) = (l.map Int.toNat).map fun c => (⟨#[c]⟩ : Str) := by rw [List.map_map]; rfl
        rw [ej, join_signs]
        have := q H3 (strans s1 (strans s2 s3))
        unfold chV at this
        rw [ho, if_pos rfl] at this
        exact this
end
end K4

set_option maxRecDepth 100000
set_option maxHeartbeats 4000000
/-! decode_piece -/
namespace K4
open PySem hiding Tok code
open PySem.Spec PyProof.Rows GD K1
open L2 hiding rest
/-- what a row of 32 numbers tells -/
def decO : List Int → Option (Int × Int × Int × List Nat)
  | b0 :: b1 :: b2 :: b3 :: b4 :: b5 :: r =>
    if b0 ≠ 83 ∨ r[25]? ≠ some 83 then none
    else if b2 ≤ b1 ∨ ¬ (1 ≤ b5 ∧ b5 ≤ 24) then none
    else if ((r.drop b5.toNat).take (25 - b5.toNat)).any (fun c => !decide (c = 0)) = true then none
    else if okc (r.take b5.toNat) = true then some (b1, b2, b3 * 256 + b4, (r.take b5.toNat).map Int.toNat) else none
  | _ => none
theorem decO_eq (b0 b1 b2 b3 b4 b5 : Int) (r : List Int) : decO (b0 :: b1 :: b2 :: b3 :: b4 :: b5 :: r) = (if b0 ≠ 83 ∨ r[25]? ≠ some 83 then none
    else if b2 ≤ b1 ∨ ¬ (1 ≤ b5 ∧ b5 ≤ 24) then none
    else if ((r.drop b5.toNat).take (25 - b5.toNat)).any (fun c => !decide (c = 0)) = true then none
    else if okc (r.take b5.toNat) = true then some (b1, b2, b3 * 256 + b4, (r.take b5.toNat).map Int.toNat) else none) := rfl
/-- a tuple of index, many, number and text; or None -/
def DecV (H : Hp) (v : V) : Option (Int × Int × Int × List Nat) → Prop
  | none => v = .non
  | some (i, m, n, p) => ∃ q, v = .ref q ∧ H q = some (.tup [.int i, .int m, .int n, .str (S p)])
theorem six {b : List Int} (h : b.length = 32) : ∃ b0 b1 b2 b3 b4 b5 r, b = b0 :: b1 :: b2 :: b3 :: b4 :: b5 :: r ∧ r.length = 26 := by
  match b, h with
  | b0 :: b1 :: b2 :: b3 :: b4 :: b5 :: r, h => exact ⟨b0, b1, b2, b3, b4, b5, r, rfl, by simpa using h⟩
theorem ne_ff {i j : Int} (h : i = j) : (!decide (V.int i = V.int j)) = false := by rw [h, decide_eq_true rfl]; rfl
theorem ne_tt {i j : Int} (h : i ≠ j) : (!decide (V.int i = V.int j)) = true := by rw [decide_eq_false fun z => h (by injection z)]; rfl
theorem iteE {c : Bool} {A B : Prop} (h : c = false) (x : B) : if c = true then A else B := by
  rw [h]
  exact iteF x
theorem iteY {c : Bool} {A B : Prop} (h : c = true) (x : A) : if c = true then A else B := by
  rw [h]
  exact iteT x
theorem atI_m1 {xs : List V} {v : V} (hl : xs.length = 32) (h : xs[31]? = some v) : atI xs (-(1 : Int)) = some v := by
  unfold atI
  rw [hl]
  exact h
theorem iv_get {l : List Int} {i : Nat} {x : Int} (h : l[i]? = some x) : (iv l)[i]? = some (.int x) := by
  unfold iv
  rw [List.getElem?_map, h]
  rfl
theorem iv_len (l : List Int) : (iv l).length = l.length := List.length_map _
theorem cut_n {b : List Int} (n : Nat) : cutV (iv b) none (some (n : Int)) = iv (b.take n) := by
  unfold cutV
  rw [HT.sIx_none, HT.sIx_nat, List.drop_zero, Nat.sub_zero, iv_len]
  unfold iv
  rw [List.map_take, ← List.length_map (f := V.int) (as := b)]
  exact (List.take_eq_take_min).symm
theorem cut_mid {b : List Int} (h : b.length = 32) {m n : Nat} (h2 : m + n ≤ 32) : cutV (iv b) (some (m : Int)) (some ((m + n : Nat) : Int)) = iv ((b.drop m).take n) := by
  unfold cutV
  have e1 : HT.sIx (iv b).length 0 (some (m : Int)) = m := by rw [HT.sIx_nat, iv_len, h]; omega
  have e2 : HT.sIx (iv b).length (iv b).length (some ((m + n : Nat) : Int)) = m + n := by rw [HT.sIx_nat, iv_len, h]; omega
  rw [e1, e2, Nat.add_sub_cancel_left]
  unfold iv
  rw [List.map_take, List.map_drop]
theorem cut_m1 {b : List Int} (h : b.length = 32) {m : Nat} (h2 : m ≤ 31) : cutV (iv b) (some (m : Int)) (some (-(1 : Int))) = iv ((b.drop m).take (31 - m)) := by
  unfold cutV
  rw [HT.sIx_nat, iv_len, h, Nat.min_eq_left (by omega)]
  have e : HT.sIx 32 32 (some (-(1 : Int))) = 31 := by decide
  rw [e]
  unfold iv
  rw [List.map_take, List.map_drop]
def nz (c : Int) : Bool := !decide (c = 0)
theorem nz_v (c : Int) : (!decide (V.int c = V.int 0)) = nz c := by
  unfold nz
  by_cases h : c = 0
  · rw [h, decide_eq_true rfl, decide_eq_true rfl]
  · rw [decide_eq_false h, decide_eq_false fun z => h (by injection z)]
section
variable {P : Program} {w : World} {K : PySem.W.Frag} {mg : Str → Option Value} {base : Heap}
def spDec (K : PySem.W.Frag) : L2.Sp := fun vs H Q _ => ∃ (a : Addr) (b : List Int), vs = [.ref a] ∧ SqL K H a (iv b) ∧ b.length = 32 ∧ ∀ H' v, Same H H' → DecV H' v (decO b) → Q v H'
theorem scDec : FnScope ["block", "_", "index", "many", "high", "low", "length", "byte", "text"] ["block"] (defScope sDec) := ⟨rfl, rfl, rfl, by decide +kernel, rfl, by decide +kernel, by decide +kernel⟩
theorem ok_dec {f f1 : Addr} {fd fd1 : FuncData} (F : Fun K "decode_piece" "decode_piece" sDec f fd) (T : Txt K mg) (T3 : Txt3 mg)
    (FC : FO P w K mg base CX0 1 "characters_of" ["codes"] (spChOf K) f1 fd1) : FnOk P w K mg base CX0 2 f fd ["block"] (spDec K) := by
  have sc := scDec
  obtain ⟨t1, gMark⟩ := T3.MARK
  obtain ⟨t2, gBlock⟩ := T3.BLOCK
  obtain ⟨t3, gHead⟩ := T3.HEAD
  obtain ⟨t4, gPiece⟩ := T3.PIECE
  refine F.ok sc (fun vs H Q E h => ?_) (fun cdv A outer s H vs Q E hr h => ?_)
  · obtain ⟨a, b, rfl, _⟩ := h
    rfl
  · obtain ⟨a, b, rfl, hS, hb, q⟩ := h
    refine ⟨_, (pss_cons (ps_if (PW.pt (pw_or (pt_cmpR op_ne (pe_callB call_len_seq (by rfl) T.len (by decide +kernel) (pa_cons (pv 0) pa_nil)) (pe_gint rfl gBlock) (nomark _)) (pw_or (pt_cmpR op_ne (pe_ix ix_list (pv 0) pe_int (fun _ _ => rfl)) (pe_gint rfl gMark) (nomark _)) (pw_or1 (pt_cmpR op_ne (pe_ix ix_list (pv 0) (pe_un un_neg pe_int) (fun _ _ => rfl)) (pe_gint rfl gMark) (nomark _))))))
      (pss_one (ps_ret pe_non))
      pss_nil)
      (pss_cons (ps_asg (pe_slice sl_list (pv 0) po_none (po_some (pe_gint rfl gHead))) (pg_lst rfl (pgs_cons (pg_name (i := 1) sc.nd rfl (Or.inl rfl)) (pgs_cons (pg_name (i := 2) sc.nd rfl (Or.inl rfl)) (pgs_cons (pg_name (i := 3) sc.nd rfl (Or.inl rfl)) (pgs_cons (pg_name (i := 4) sc.nd rfl (Or.inl rfl)) (pgs_cons (pg_name (i := 5) sc.nd rfl (Or.inl rfl)) (pgs_cons (pg_name (i := 6) sc.nd rfl (Or.inl rfl)) pgs_nil))))))))
      (pss_cons (ps_if (PW.pt (pw_or (pt_cmpR op_ge (pv 2) (pv 3) (nomark _)) (pw_or1 (pt_not (pt_chain op_le op_le pe_int (pv 6) (pe_gint rfl gPiece))))))
      (pss_one (ps_ret pe_non))
      pss_nil)
      (pss_cons (ps_if (pt_val (pe_callB (cr_any rfl) (by rfl) T3.any (by decide +kernel) (pa_cons (pe_lc (own := [("byte", 7)]) rfl sc.nd (pi_list (pe_slice sl_list (pv 0) (po_some (pe_op op_add (pe_gint rfl gHead) (pv 6))) (po_some (pe_un un_neg pe_int)))) (blkOk_by (own := [("byte", 7)]) (N := ["block", "_", "index", "many", "high", "low", "length", "byte", "text"]) (sc := defScope sDec) (by decide +kernel)) (fun _ _ _ _ _ => (pg_name (i := 7) sc.nd rfl (Or.inl rfl))) (fun _ _ _ _ _ => pts_nil) (fun _ _ _ _ _ => (pe_cmpR op_ne (pv 7) pe_int (nomark _)))) pa_nil)))
      (pss_one (ps_ret pe_non))
      pss_nil)
      (pss_cons (ps_set (i := 8) sc.nd rfl (Or.inl rfl) (pe_call FC.ok hr (by rfl) FC.m FC.kp FC.b .nil pass0 (pa_cons (pe_slice sl_list (pv 0) (po_some (pe_gint rfl gHead)) (po_some (pe_op op_add (pe_gint rfl gHead) (pv 6)))) pa_nil)))
      (pss_one (ps_ret (pe_ifExp (pt_cmpR op_isN (pv 8) pe_non (nomark _)) pe_non (pe_tup (pa_cons (pv 2) (pa_cons (pv 3) (pa_cons (pe_op op_add (pe_op op_mul (pv 4) pe_int) (pv 5)) (pa_cons (pv 8) pa_nil))))))))))))), ?_⟩
    obtain ⟨b0, b1, b2, b3, b4, b5, r, eb, hr26⟩ := six hb
    have lb := (iv_len b).trans hb
    obtain ⟨last, e31⟩ : ∃ x, r[25]? = some x := ⟨_, List.getElem?_eq_getElem (by omega)⟩
    have bad : ∀ H', Same H H' → decO b = none → Q .non H' := fun H' s e => q H' .non s (by rw [e]; exact rfl)
    refine ⟨_, rfl, a, _, rfl, .inl hS, rfl, _, rfl, ?_⟩
    refine iteE (ne_ff (by rw [lb]; rfl)) ?_
    refine ⟨_, rfl, a, _, _, _, rfl, rfl, hS, atI_nat (j := 0) (iv_get (x := b0) (by rw [eb]; rfl)), rfl, _, rfl, ?_⟩
    by_cases h0 : b0 = 83
    case neg =>
      refine iteY (ne_tt h0) (bad H (Same.refl H) ?_)
      rw [eb, decO_eq, if_pos (.inl h0)]
    refine iteE (ne_ff h0) ?_
    refine ⟨_, rfl, _, rfl, a, _, _, _, rfl, rfl, hS, atI_m1 lb (iv_get (x := last) (by rw [eb]; exact e31)), rfl, _, rfl, ?_⟩
    by_cases h1 : last = 83
    case neg =>
      refine iteY (ne_tt h1) (bad H (Same.refl H) ?_)
      rw [eb, decO_eq, if_pos (.inr fun z => h1 (by rw [e31] at z; exact Option.some.inj z))]
    refine iteE (ne_ff h1) ?_
    have ed : decO b = (if b2 ≤ b1 ∨ ¬ (1 ≤ b5 ∧ b5 ≤ 24) then none
      else if ((r.drop b5.toNat).take (25 - b5.toNat)).any (fun c => !decide (c = 0)) = true then none
      else if okc (r.take b5.toNat) = true then some (b1, b2, b3 * 256 + b4, (r.take b5.toNat).map Int.toNat) else none) := by
      rw [eb, decO_eq, if_neg fun z => z.elim (fun z => z h0) fun z => z (by rw [e31, h1])]
    refine ⟨_, rfl, _, rfl, a, _, rfl, hS, fun u nu => ?_⟩
    have e6 : cutV (iv b) none (some 6) = [.int b0, .int b1, .int b2, .int b3, .int b4, .int b5] := by
      have := cut_n (b := b) 6
      rw [eb] at this ⊢
      exact this
    rw [e6] at *
    have s1 : Same H (upd H u (.lst [.int b0, .int b1, .int b2, .int b3, .int b4, .int b5])) := Same.lst (Same.refl H) nu
    refine ⟨u, _, rfl, SqL.of upd_same, rfl, _, _, rfl, _, _, rfl, _, _, rfl, _, _, rfl, _, _, rfl, _, _, rfl, rfl, ?_⟩
    refine ⟨_, rfl, _, rfl, _, _, rfl, rfl, _, rfl, ite2 (fun h2 => ?_) (fun h2 => ?_)⟩
    · have h2 : b2 ≤ b1 := of_decide_eq_true h2
      exact bad _ s1 (by rw [ed, if_pos (.inl h2)])
    have h2 : ¬ b2 ≤ b1 := fun z => h2 (decide_eq_true z)
    have out : ∀ H', Same H H' → ¬ (1 ≤ b5 ∧ b5 ≤ 24) → Q .non H' := fun H' s n => bad H' s (by rw [ed, if_pos (.inr n)])
    refine ⟨_, rfl, _, _, rfl, rfl, _, rfl, ite2 (fun h3 => ?_) (fun h3 => ?_)⟩
    rotate_left
    · refine ⟨_, rfl, iteT (out _ s1 fun z => h3 (decide_eq_true z.1))⟩
    have h3 : (1 : Int) ≤ b5 := of_decide_eq_true h3
    refine ⟨_, _, rfl, rfl, _, rfl, ?_⟩
    by_cases h4 : b5 ≤ 24
    case neg =>
      exact iteY (by rw [decide_eq_false h4]; rfl) (out _ s1 fun z => h4 z.2)
    refine iteE (by rw [decide_eq_true h4]; rfl) ?_
    obtain ⟨n, rfl⟩ : ∃ n : Nat, b5 = (n : Int) := ⟨b5.toNat, by omega⟩
    have ed2 : decO b = (if ((r.drop n).take (25 - n)).any (fun c => !decide (c = 0)) = true then none
      else if okc (r.take n) = true then some (b1, b2, b3 * 256 + b4, (r.take n).map Int.toNat) else none) := by
      rw [ed, if_neg fun z => z.elim h2 fun z => z ⟨h3, h4⟩, Int.toNat_natCast]
    have sq : ∀ H', Same H H' → SqL K H' a (iv b) := fun H' s => s.seq hS
    have n24 : n ≤ 24 := by omega
    have ea : (6 : Int) + (n : Int) = ((6 + n : Nat) : Int) := by omega
    have ec : cutV (iv b) (some ((6 : Int) + (n : Int))) (some (-(1 : Int))) = iv ((r.drop n).take (25 - n)) := by
      rw [ea, cut_m1 hb (by omega), eb]
      have e1 : (b0 :: b1 :: b2 :: b3 :: b4 :: (n : Int) :: r).drop (6 + n) = r.drop n := by
        rw [← List.drop_drop]; rfl
      rw [e1, show 31 - (6 + n) = 25 - n by omega]
    refine ⟨_, rfl, _, rfl, _, _, rfl, rfl, _, rfl, _, rfl, _, rfl, a, _, rfl, sq _ s1, fun w2 nw => ?_⟩
    rw [ec] at *
    have s2 := snew (o := .lst (iv ((r.drop n).take (25 - n)))) s1 nw
    refine ⟨w2, rfl, ⟨_, SqL.of upd_same⟩, fun D nD => ?_⟩
    refine lc_it (walk_list (K := K) (a := w2) (xs := iv ((r.drop n).take (25 - n)))) (fun j H' => Same (upd (upd H u (.lst [.int b0, .int b1, .int b2, .int b3, .int b4, .int (n : Int)])) w2 (.lst (iv ((r.drop n).take (25 - n))))) H' ∧ H' D = some (.lst (((((r.drop n).take (25 - n)).take j).map nz).map V.bl)))
      ⟨Same.lst (Same.refl _) nD, upd_same⟩ (fun i H' _ pv => SqL.of (pv.1 _ _ upd_same)) (fun j x H2 H3 hj pv y => ?_) (fun H2 pv => ?_)
    · obtain ⟨rfl, hx⟩ := y
      have hx : (iv ((r.drop n).take (25 - n)))[j]? = some x := hx
      unfold iv at hx
      rw [List.getElem?_map, Option.map_eq_some_iff] at hx
      obtain ⟨i, hi, rfl⟩ := hx
      have lt : ((((r.drop n).take (25 - n)).take j)).length ≤ 26 := by
        rw [List.length_take, List.length_take, List.length_drop]
        omega
      refine ⟨rfl, ?_⟩
      refine ⟨_, rfl, rfl, ?_⟩
      refine ⟨_, pv.2, ?_, Same.lst pv.1 nD, ?_⟩
      · rw [List.length_map, List.length_map]
        exact szlt (by omega)
      · rw [upd_same, nz_v]
        conv => rhs; rw [List.take_add_one, hi, List.map_append, List.map_append]
        rfl
    rw [iv_len, List.take_length] at pv
    obtain ⟨s3, eD⟩ := pv
    have s4 := strans s2 s3
    refine ⟨D, ((r.drop n).take (25 - n)).map nz, rfl, SqL.of eD, _, rfl, ?_⟩
    have ean : (((r.drop n).take (25 - n)).map nz).any id = ((r.drop n).take (25 - n)).any fun c => !decide (c = 0) := by
      rw [List.any_map]
      rfl
    by_cases h5 : ((r.drop n).take (25 - n)).any (fun c => !decide (c = 0)) = true
    · exact iteY (ean.trans h5) (bad _ s4 (by rw [ed2, if_pos h5]))
    have h5f : (((r.drop n).take (25 - n)).any fun c => !decide (c = 0)) = false := by
      cases z : ((r.drop n).take (25 - n)).any fun c => !decide (c = 0)
      · rfl
      · exact absurd z h5
    refine iteE (ean.trans h5f) ?_
    have ed3 := ed2
    rw [if_neg h5] at ed3
    have ec2 : cutV (iv b) (some (6 : Int)) (some ((6 : Int) + (n : Int))) = iv (r.take n) := by
      have := cut_mid hb (m := 6) (n := n) (by omega)
      rw [ea]
      refine this.trans ?_
      rw [eb]
      rfl
    refine ⟨_, rfl, _, rfl, _, rfl, _, _, rfl, rfl, _, rfl, a, _, rfl, sq _ s4, fun w3 nw3 => ?_⟩
    rw [ec2] at *
    have s5 := snew (o := .lst (iv (r.take n))) s4 nw3
    refine ⟨w3, r.take n, rfl, SqL.of upd_same, by rw [List.length_take]; omega, fun H5 s6 => ?_⟩
    have s7 := strans s5 s6
    by_cases h6 : okc (r.take n) = true
    · rw [if_pos h6] at ed3
      have ech : chV (r.take n) = .str (S ((r.take n).map Int.toNat)) := by unfold chV; rw [if_pos h6]
      rw [ech]
      refine ⟨_, rfl, rfl, _, rfl, iteF ?_⟩
      refine ⟨_, rfl, _, rfl, _, rfl, _, _, rfl, rfl, .inr (by decide), _, rfl, _, _, rfl, rfl, _, rfl, (by show 4 ≤ sizeLine; decide), fun p np => ?_⟩
      refine q _ _ (snew s7 np) ?_
      rw [ed3]
      exact ⟨p, rfl, upd_same⟩
    · rw [if_neg h6] at ed3
      have ech : chV (r.take n) = .non := by unfold chV; rw [if_neg h6]
      rw [ech]
      exact ⟨_, rfl, rfl, _, rfl, iteT (bad _ s7 ed3)⟩
end
end K4

set_option maxRecDepth 100000
set_option maxHeartbeats 4000000
/-! the law's pieces, its signs -/
namespace K4
open PySem hiding Tok code
open PySem.Spec PyProof.Rows GD K1
open L2 hiding rest
theorem rep_cat (c : Nat) : ∀ (n : Nat) (acc : Array Nat), (List.replicate n #[c]).foldl (· ++ ·) acc = acc ++ (List.replicate n c).toArray
  | 0, acc => by simp
  | n + 1, acc => by
    rw [List.replicate_succ, List.foldl_cons, rep_cat c n, Array.append_assoc, List.replicate_succ]
    congr 1
    simp
/-- one sign, so and so often -/
theorem op_rep_one {X : Cx} : OpR X (binaryOp .Mult) (fun x y H Q => ∃ (c n : Nat), x = .str ⟨#[c]⟩ ∧ y = .int ((n : Nat) : Int) ∧ 1 ≤ n ∧ n ≤ 5000 ∧ Q (.str (S (List.replicate n c))) H) := by
  intro pins s σ H x y v u Q I rx ry h
  obtain ⟨c, n, rfl, rfl, h1, h2, q⟩ := h
  obtain ⟨t, rfl⟩ := rx
  obtain ⟨t', rfl⟩ := ry
  have l1 : (⟨#[c]⟩ : Str).length = 1 := rfl
  refine PySem.P.mul_str ?_ (fun _ _ => ?_) (fun _ _ => ?_) ?_
  · rw [decide_eq_false (by omega), decide_eq_false (by omega)]
    rfl
  · rw [l1]
    have : (1 : Int) ≤ (2 ^ 63 - 1) / ((n : Nat) : Int) := (Int.le_ediv_iff_mul_le (by omega)).mpr (by omega)
    omega
  · rw [l1, Nat.one_mul, Int.toNat_natCast]
    unfold Builtin.Str.tooLong
    exact decide_eq_false (by have := szle h2; omega)
  · rw [if_neg (by omega)]
    by_cases e : n = 1
    · subst e
      rw [if_pos (by rfl)]
      exact ⟨.str _, H, I.tok _, ⟨_, rfl⟩, q⟩
    · have e2 : (((n : Nat) : Int) == 1 || (⟨#[c]⟩ : Str).length == 0) = false := by
        rw [l1, show (((n : Nat) : Int) == 1) = false from beq_eq_false_iff_ne.mpr (by omega)]
        rfl
      rw [e2, if_neg Bool.false_ne_true, Int.toNat_natCast]
      have e3 : (⟨(List.replicate n (⟨#[c]⟩ : Str).cps).foldl (· ++ ·) #[]⟩ : Str) = S (List.replicate n c) := by
        rw [show (⟨#[c]⟩ : Str).cps = #[c] from rfl, rep_cat]
        unfold S
        congr 1
        simp
      rw [e3]
      exact ⟨by rw [S_len, List.length_replicate]; exact szle h2, ⟨.str _, H, I.tok _, ⟨_, rfl⟩, q⟩⟩
section
variable {P : Program} {w : World} {K : PySem.W.Frag} {mg : Str → Option Value} {base : Heap}
def spLSigns : L2.Sp := fun vs H Q _ => ∃ (b d : Addr) (ds : List Int) (n m : Nat), vs = [.ref b, .int (m : Nat)] ∧ Box H b d ds n ∧ 1 ≤ m ∧ m ≤ 720 ∧
  ∀ H' L n', Bs b d ds H H' n' → L.length = m → (∀ c ∈ L, isCh c = true) → Q (.str (S L)) H'
theorem scLSigns : FnScope ["box", "many", "signs", "text", "turn"] ["box", "many"] (defScope sLSigns) := ⟨rfl, rfl, rfl, by decide +kernel, rfl, by decide +kernel, by decide +kernel⟩
theorem sg_at {r : Int} (h0 : 0 ≤ r) (h1 : r < ((CHS.length : Nat) : Int)) : ∃ (j c : Nat), r = (j : Int) ∧ CHS.cps[j]? = some c ∧ isCh c = true := by
  obtain ⟨j, rfl, hj⟩ := idx h0 h1
  have hj2 : j < chL.length := by
    have : CHS.length = chL.length := rfl
    omega
  refine ⟨j, chL[j], rfl, ?_, ch_mem.mp (List.getElem_mem hj2)⟩
  rw [← Array.getElem?_toList]
  exact List.getElem?_eq_getElem hj2
theorem ok_lsigns {f f1 : Addr} {fd fd1 : FuncData} (F : Fun K "_law_signs" "_law_signs" sLSigns f fd) (T : Txt K mg)
    (FD : FO P w K mg base CX0 1 "_law_draw" ["box", "many"] spDraw f1 fd1) : FnOk P w K mg base CX0 2 f fd ["box", "many"] spLSigns := by
  have sc := scLSigns
  have cl : CHS.length = 94 := by decide +kernel
  refine F.ok sc (fun vs H Q E h => ?_) (fun cdv A outer s H vs Q E hr h => ?_)
  · obtain ⟨b, d, ds, n, m, rfl, _⟩ := h
    rfl
  · obtain ⟨b, d, ds, n, m, rfl, hB, m1, m2, q⟩ := h
    refine ⟨_, (pss_cons (ps_set (i := 2) sc.nd rfl (Or.inl rfl) pe_str)
      (pss_cons (ps_if (pt_cmpR op_eq (pe_call FD.ok hr (by rfl) FD.m FD.kp FD.b .nil pass0 (pa_cons (pv 0) (pa_cons pe_int pa_nil))) pe_int (nomark _))
      (pss_one (ps_ret (pe_op op_rep_one (pe_item_str (pv 2) (pe_call FD.ok hr (by rfl) FD.m FD.kp FD.b .nil pass0 (pa_cons (pv 0) (pa_cons (pe_callB call_len_str (by rfl) T.len (by decide +kernel) (pa_cons (pv 2) pa_nil)) pa_nil))) (fun _ _ => rfl)) (pv 1))))
      pss_nil)
      (pss_cons (ps_set (i := 3) sc.nd rfl (Or.inl rfl) pe_str)
      (pss_cons (ps_for PassesOwn.never rfl (pi_range1 rfl T.range (pa_cons (pv 1) pa_nil)) (pg_name (i := 4) sc.nd rfl (Or.inl rfl))
      (pss_one (ps_set (i := 3) sc.nd rfl (Or.inl rfl) (pe_op op_add_str (pv 3) (pe_item_str (pv 2) (pe_call FD.ok hr (by rfl) FD.m FD.kp FD.b .nil pass0 (pa_cons (pv 0) (pa_cons (pe_callB call_len_str (by rfl) T.len (by decide +kernel) (pa_cons (pv 2) pa_nil)) pa_nil))) (fun _ _ => rfl))))))
      (pss_one (ps_ret (pv 3))))))), ?_⟩
    have v0 := Bs.refl hB
    refine ⟨_, rfl, b, d, ds, n, 4, rfl, hB, by decide, fun r h0 h1 => ?_⟩
    have v1 := v0.draw
    refine ⟨rfl, _, rfl, ite2 (fun _ => ?_) (fun _ => ?_)⟩
    · refine ⟨_, rfl, _, rfl, _, rfl, _, rfl, szle (by show CHS.length ≤ 5000; rw [cl]; decide), b, d, ds, _, _, rfl, v1.box, by show (0 : Int) < (CHS.length : Nat); rw [cl]; decide, fun r h0 h1 => ?_⟩
      obtain ⟨j, c, rfl, hc, ic⟩ := sg_at h0 h1
      have jl : ((j : Nat) : Int) < ((CHS.length : Nat) : Int) := h1
      refine ⟨CHS, j, c, rfl, rfl, by omega, by rw [cl] at jl; omega, jl, by rw [Int.toNat_natCast]; exact hc, _, rfl, c, m, rfl, rfl, m1, by omega, ?_⟩
      refine q _ _ _ v1.draw (List.length_replicate) fun x hx => ?_
      rw [List.eq_of_mem_replicate hx]
      exact ic
    · refine ⟨_, rfl, _, rfl, by omega, by omega, for_range (lo := 0) (n := m) (fun i σ H' => ∃ (L : List Nat) (n' : Nat) (y4 : Option V), σ = [some (.ref b), some (.int (m : Nat)), some (.str CHS), some (.str (S L)), y4] ∧ Bs b d ds H H' n' ∧ L.length = i ∧ ∀ c ∈ L, isCh c = true)
        ⟨[], _, none, rfl, v1, rfl, fun c hc => by cases hc⟩ ?_ ?_⟩
      · rintro i σ H2 hi ⟨L, n', y4, rfl, v2, ll, hL⟩
        refine ⟨_, rfl, _, rfl, _, rfl, _, rfl, _, rfl, szle (by show CHS.length ≤ 5000; rw [cl]; decide), b, d, ds, _, _, rfl, v2.box, by show (0 : Int) < (CHS.length : Nat); rw [cl]; decide, fun r h0 h1 => ?_⟩
        obtain ⟨j, c, rfl, hc, ic⟩ := sg_at h0 h1
        have jl : ((j : Nat) : Int) < ((CHS.length : Nat) : Int) := h1
        refine ⟨CHS, j, c, rfl, rfl, by omega, by rw [cl] at jl; omega, jl, by rw [Int.toNat_natCast]; exact hc, _, _, rfl, rfl, ?_, ?_⟩
        · rw [S_len]
          exact szle (by show L.length + 1 ≤ 5000; omega)
        · refine ⟨L ++ [c], _, some (.int (0 + (i : Nat))), ?_, v2.draw, by rw [List.length_append, ll]; rfl, fun x hx => ?_⟩
          · rw [show (⟨#[c]⟩ : Str) = S [c] from rfl, S_app]
            rfl
          · rcases List.mem_append.mp hx with hx | hx
            · exact hL x hx
            · rw [List.mem_singleton.mp hx]
              exact ic
      · rintro σ H2 ⟨L, n', y4, rfl, v2, ll, hL⟩
        exact ⟨_, rfl, q _ _ _ v2 ll hL⟩
end
end K4

set_option maxRecDepth 100000
set_option maxHeartbeats 4000000
/-! the law's pieces -/
namespace K4
open PySem hiding Tok code
open PySem.Spec PyProof.Rows GD K1
open L2 hiding rest
def hd6 (i many num : Int) (p : List Nat) : List Int := [83, i, many, num / 256, num % 256, (p.length : Int)]
theorem enc_hd (i many num : Int) (p : List Nat) : enc i many num p = hd6 i many num p ++ codes p ++ List.replicate (25 - p.length) 0 ++ [83] := rfl
theorem codes_snoc (p : List Nat) (c : Nat) : codes (p ++ [c]) = codes p ++ [((c : Nat) : Int)] := by
  unfold codes
  rw [List.map_append]
  rfl
theorem iv_snoc (l : List Int) (x : Int) : iv l ++ [V.int x] = iv (l ++ [x]) := by
  unfold iv
  rw [List.map_append]
  rfl
section
variable {P : Program} {w : World} {K : PySem.W.Frag} {mg : Str → Option Value} {base : Heap}
def spLPieces : L2.Sp := fun vs H Q _ => ∃ (num : Int) (L : List Nat), vs = [.int num, .str (S L)] ∧ L.length ≤ 720 ∧
  ∀ H' D ws, Same H H' → H D = none → H' D = some (.lst ws) → Blks H' ws (encR num L) → (∀ q, V.ref q ∈ ws → H q = none) → Q (.ref D) H'
theorem scLPieces : FnScope ["number", "text", "blocks", "many", "k", "part", "block", "sign"] ["number", "text"] (defScope sLPieces) := ⟨rfl, rfl, rfl, by decide +kernel, rfl, by decide +kernel, by decide +kernel⟩
theorem ok_lpieces {f : Addr} {fd : FuncData} (F : Fun K "_law_pieces" "_law_pieces" sLPieces f fd) (T : Txt K mg) (T3 : Txt3 mg) : FnOk P w K mg base CX0 1 f fd ["number", "text"] spLPieces := by
  have sc := scLPieces
  refine F.ok sc (fun vs H Q E h => ?_) (fun cdv A outer s H vs Q E hr h => ?_)
  · obtain ⟨num, L, rfl, _⟩ := h
    rfl
  · obtain ⟨num, L, rfl, hl, q⟩ := h
    refine ⟨_, (pss_cons (ps_set (i := 2) sc.nd rfl (Or.inl rfl) (pe_lst pa_nil))
      (pss_cons (ps_set (i := 3) sc.nd rfl (Or.inl rfl) (pe_op op_fdiv (pe_op op_add (pe_callB call_len_str (by rfl) T.len (by decide +kernel) (pa_cons (pv 1) pa_nil)) pe_int) pe_int))
      (pss_cons (ps_for PassesOwn.never rfl (pi_range1 rfl T.range (pa_cons (pv 3) pa_nil)) (pg_name (i := 4) sc.nd rfl (Or.inl rfl))
      (pss_cons (ps_set (i := 5) sc.nd rfl (Or.inl rfl) (pe_slice sl_str (pv 1) (po_some (pe_op op_mul pe_int (pv 4))) (po_some (pe_op op_add (pe_op op_mul pe_int (pv 4)) pe_int))))
      (pss_cons (ps_set (i := 6) sc.nd rfl (Or.inl rfl) (pe_lst (pa_cons pe_int (pa_cons (pv 4) (pa_cons (pv 3) (pa_cons (pe_op op_fdiv (pv 0) pe_int) (pa_cons (pe_op op_mod (pe_callTy call_int1 (by rfl) T.bint (by decide +kernel) (pa_cons (pv 0) pa_nil)) pe_int) (pa_cons (pe_callB call_len_str (by rfl) T.len (by decide +kernel) (pa_cons (pv 5) pa_nil)) pa_nil))))))))
      (pss_cons (ps_for PassesOwn.never rfl (pi_str (pv 5)) (pg_name (i := 7) sc.nd rfl (Or.inl rfl))
      (pss_one (ps_expr (pe_bm PySem.F.plainAttrs_list PySem.F.slot_list_append PySem.F.type_list_append mt_append (pv 6) (pa_cons (pe_callB call_ord (by rfl) T3.ord (by decide +kernel) (pa_cons (pv 7) pa_nil)) pa_nil)))))
      (pss_one (ps_expr (pe_bm PySem.F.plainAttrs_list PySem.F.slot_list_append PySem.F.type_list_append mt_append (pv 2) (pa_cons (pe_op op_cat (pe_op op_cat (pv 6) (pe_op op_rep (pe_lst (pa_cons pe_int pa_nil)) (pe_op op_sub pe_int (pe_callB call_len_seq (by rfl) T.len (by decide +kernel) (pa_cons (pv 6) pa_nil))))) (pe_lst (pa_cons pe_int pa_nil))) pa_nil))))))))
      (pss_one (ps_ret (pv 2)))))), ?_⟩
    have cl : cnt L ≤ 30 := by unfold cnt; omega
    have ec : (((S L).length : Nat) : Int) + 23 = ((L.length + 23 : Nat) : Int) := by rw [S_len]; omega
    have ec2 : (((S L).length : Nat) + (23 : Int)) / 24 = ((cnt L : Nat) : Int) := by rw [ec]; unfold cnt; omega
    refine ⟨Nat.zero_le _, fun D nD => ?_⟩
    refine ⟨_, rfl, _, rfl, (by rw [S_len]; exact szle (by omega)), _, _, rfl, rfl, _, _, rfl, rfl, ⟨by decide, by decide⟩, ?_⟩
    refine ⟨_, rfl, _, rfl, by rw [ec2]; omega, by rw [ec2]; omega, ?_⟩
    rw [ec2, Int.toNat_natCast]
    refine for_range (lo := 0) (n := cnt L) (fun i σ H' => ∃ (ws : List V) (y4 y5 y6 y7 : Option V), σ = [some (.int num), some (.str (S L)), some (.ref D), some (.int (cnt L : Nat)), y4, y5, y6, y7] ∧ Same H H' ∧ H' D = some (.lst ws) ∧ BlkD (fun q => q ≠ D ∧ H q = none) H' ws ((List.range i).map fun k => enc (k : Nat) (cnt L : Nat) num (piece L k)))
      ⟨[], _, _, _, _, rfl, Same.lst (Same.refl _) nD, upd_same, .nil⟩ ?_ ?_
    rotate_left
    · rintro σ H2 ⟨ws, y4, y5, y6, y7, rfl, s2, eD, bl⟩
      exact ⟨_, rfl, q _ D ws s2 nD eD bl.blks fun q hq => (bl.z q hq).2⟩
    rintro i σ H2 hi ⟨ws, y4, y5, y6, y7, rfl, s2, eD, bl⟩
    have e1 : (24 : Int) * (0 + (i : Nat)) = ((24 * i : Nat) : Int) := by omega
    have e2 : (24 : Int) * (0 + (i : Nat)) + 24 = ((24 * i + 24 : Nat) : Int) := by omega
    refine ⟨_, rfl, _, rfl, _, _, rfl, rfl, .inl (by decide), _, rfl, _, rfl, _, _, rfl, rfl, .inl (by decide), _, _, rfl, rfl, _, rfl, _, rfl, (by rw [S_len]; exact szle (by omega)), ?_⟩
    have ep : cutS (S L) (some ((24 : Int) * (0 + (i : Nat)))) (some ((24 : Int) * (0 + (i : Nat)) + 24)) = S (piece L i) := by
      rw [e2, e1]
      exact cut24 L (cnt_lt hi)
    obtain ⟨p, hp⟩ : ∃ p, p = piece L i := ⟨_, rfl⟩
    rw [ep, ← hp]
    have lp : p.length ≤ 24 := by rw [hp]; exact piece_len L i
    refine ⟨_, rfl, _, rfl, _, rfl, _, _, rfl, rfl, ⟨by decide, by decide⟩, _, rfl, .inl ⟨_, rfl, _, _, rfl, rfl, (by show (0 : Int) < 256; decide), _, rfl, _, rfl, (by rw [S_len]; exact szle (by omega)), (by show 6 ≤ sizeLine; decide), fun h nh => ?_⟩⟩
    have eh0 : (upd H2 h (.lst [V.int 83, V.int (0 + (i : Nat)), V.int (cnt L : Nat), V.int (num / 256), V.int (num % 256), V.int (S p).length])) = upd H2 h (.lst (iv (hd6 (i : Nat) (cnt L : Nat) num p ++ codes (p.take 0)))) := by
      rw [S_len, Int.zero_add]
      rfl
    have nhD : h ≠ D := fun z => by rw [z, eD] at nh; cases nh
    refine ⟨_, rfl, _, rfl, ?_⟩
    refine for_it (walk_str (z := S p)) (fun j σ H' => ∃ (y7 : Option V), σ = [some (.int num), some (.str (S L)), some (.ref D), some (.int (cnt L : Nat)), some (.int (0 + (i : Nat))), some (.str (S p)), some (.ref h), y7] ∧ Same H2 H' ∧ H' h = some (.lst (iv (hd6 (i : Nat) (cnt L : Nat) num p ++ codes (p.take j)))))
      ⟨_, rfl, Same.lst (Same.refl _) nh, ?_⟩ (fun _ _ _ _ _ => trivial) ?_ ?_
    · show (upd H2 h (.lst [V.int 83, V.int (0 + (i : Nat)), V.int (cnt L : Nat), V.int (num / 256), V.int (num % 256), V.int (S p).length])) h = _
      rw [eh0, upd_same]
    · rintro j x σ H3 H3' hj ⟨y7, rfl, s3, eh⟩ ⟨rfl, c, hc, rfl⟩
      have hc' := getS hc
      refine ⟨_, rfl, .inl ⟨rfl, _, SqL.of eh⟩, _, rfl, _, rfl, rfl, h, _, _, rfl, rfl, eh, ?_, _, rfl, Same.lst s3 nh, ?_⟩
      · rw [iv_len, List.length_append, codes_len, List.length_take]
        exact szlt (by show 6 + min j p.length ≤ 5000; omega)
      · rw [upd_same, one_cps, iv_snoc, List.append_assoc, ← codes_snoc, List.take_add_one, hc']
        rfl
    rintro σ H3 ⟨y7, rfl, s3, eh⟩
    rw [show (S p).cps.size = p.length from S_len p, List.take_length] at eh
    have eD3 := s3 _ _ eD
    have l6 : (iv (hd6 (i : Nat) (cnt L : Nat) num p ++ codes p)).length = 6 + p.length := by
      rw [iv_len, List.length_append, codes_len]
      rfl
    refine ⟨_, rfl, .inl ⟨rfl, _, SqL.of eD3⟩, _, rfl, (by show 1 ≤ sizeLine; decide), fun z nz => ?_⟩
    have s4 : Same H3 (upd H3 z (.lst [V.int 0])) := Same.lst (Same.refl _) nz
    refine ⟨_, rfl, h, _, rfl, .inl (SqL.of (s4 _ _ eh)), _, _, rfl, rfl, z, _, _, rfl, rfl, upd_same, by rw [l6]; omega, by rw [l6]; omega, ?_, fun r nr => ?_⟩
    · rw [l6]
      show 1 * _ ≤ _
      rw [Nat.one_mul]
      exact szle (by omega)
    have er : ((31 : Int) - ((iv (hd6 (i : Nat) (cnt L : Nat) num p ++ codes p)).length : Nat)).toNat = 25 - p.length := by rw [l6]; omega
    rw [er, rep_flat, rep_iv] at *
    have s5 : Same H3 (upd (upd H3 z (.lst [V.int 0])) r (.lst (iv (List.replicate (25 - p.length) 0)))) := snew s4 nr
    refine ⟨h, r, iv (hd6 (i : Nat) (cnt L : Nat) num p ++ codes p), _, rfl, rfl, s5 _ _ eh, upd_same, ?_, fun u nu => ?_⟩
    · rw [l6, iv_len, List.length_replicate]
      exact szle (by omega)
    rw [iv_app]
    have s6 := snew (o := .lst (iv (hd6 (i : Nat) (cnt L : Nat) num p ++ codes p ++ List.replicate (25 - p.length) 0))) s5 nu
    refine ⟨(by show 1 ≤ sizeLine; decide), fun m nm => ?_⟩
    have s7 := snew (o := .lst [V.int 83]) s6 nm
    refine ⟨u, m, iv (hd6 (i : Nat) (cnt L : Nat) num p ++ codes p ++ List.replicate (25 - p.length) 0), _, rfl, rfl, by rw [upd_ne (ne_of_none upd_same nm)]; exact upd_same, upd_same, ?_, fun o no => ?_⟩
    · rw [iv_len, List.length_append, List.length_append, codes_len, List.length_replicate]
      exact szle (by show 6 + p.length + (25 - p.length) + 1 ≤ 5000; omega)
    have s8 := snew (o := .lst (iv (hd6 (i : Nat) (cnt L : Nat) num p ++ codes p ++ List.replicate (25 - p.length) 0) ++ [V.int 83])) s7 no
    have wl := bl.blks.len
    rw [List.length_map, List.length_range] at wl
    have noD : o ≠ D := fun y => by rw [y, s7 _ _ eD3] at no; cases no
    refine ⟨D, ws, _, rfl, rfl, s8 _ _ eD3, by rw [wl]; exact szlt (by omega), ?_⟩
    refine ⟨ws ++ [.ref o], _, _, _, _, rfl, fun b ob e => ?_, upd_same, ?_⟩
    · rw [upd_ne (ne_of_none e nD)]
      exact s8 _ _ (s3 _ _ (s2 _ _ e))
    · rw [range_snoc]
      refine BlkD.snoc (bl.up fun q xs n e => by rw [upd_ne n.1]; exact s8 _ _ (s3 _ _ e)) ⟨noD, sfree (strans s2 (strans s3 s7)) no⟩ ?_
      rw [upd_ne noD, upd_same, ← hp, enc_hd, iv_snoc]
end
end K4

set_option maxRecDepth 100000
set_option maxHeartbeats 16000000
/-! the law of pieces -/
namespace K4
open PySem hiding Tok code
open PySem.Spec PyProof.Rows GD K1
open L2 hiding rest
theorem piece_pos {L : List Nat} {k : Nat} (h : k < cnt L) : 1 ≤ (piece L k).length := by
  unfold piece
  unfold cnt at h
  rw [List.length_take, List.length_drop]
  omega
theorem piece_mem {L : List Nat} {k c : Nat} (h : c ∈ piece L k) : c ∈ L := List.mem_of_mem_drop (List.mem_of_mem_take h)
theorem codes_nat (p : List Nat) : (codes p).map Int.toNat = p := by
  unfold codes
  rw [List.map_map]
  exact (List.map_congr_left fun c _ => Int.toNat_natCast c).trans (List.map_id p)
theorem codes_ok {p : List Nat} (h : ∀ c ∈ p, isCh c = true) : okc (codes p) = true := by
  unfold okc codes
  rw [List.all_map]
  refine List.all_eq_true.mpr fun c hc => ?_
  show okc1 ((c : Nat) : Int) = true
  exact okc1_iff.mpr ⟨by omega, by rw [Int.toNat_natCast]; exact h c hc⟩
/-- a piece's block is read so -/
theorem dec_enc {i many num : Int} {p : List Nat} (h1 : i < many) (hn : 0 ≤ num) (hp : 1 ≤ p.length) (hp2 : p.length ≤ 24) (hc : ∀ c ∈ p, isCh c = true) : decO (enc i many num p) = some (i, many, num, p) := by
  have e : enc i many num p = 83 :: i :: many :: (num / 256) :: (num % 256) :: (p.length : Int) :: (codes p ++ (List.replicate (25 - p.length) 0 ++ [83])) := by
    unfold enc
    rw [List.append_assoc, List.append_assoc]
    rfl
  rw [e, decO_eq, Int.toNat_natCast]
  have l1 := codes_len p
  have t1 : (codes p ++ (List.replicate (25 - p.length) (0 : Int) ++ [83])).take p.length = codes p := List.take_left' l1
  have d1 : (codes p ++ (List.replicate (25 - p.length) (0 : Int) ++ [83])).drop p.length = List.replicate (25 - p.length) 0 ++ [83] := List.drop_left' l1
  have t2 : (List.replicate (25 - p.length) (0 : Int) ++ [83]).take (25 - p.length) = List.replicate (25 - p.length) 0 := List.take_left' List.length_replicate
  have g1 : (codes p ++ (List.replicate (25 - p.length) (0 : Int) ++ [83]))[25]? = some 83 := by
    rw [List.getElem?_append_right (by omega), l1, List.getElem?_append_right (by rw [List.length_replicate]; omega), List.length_replicate, show 25 - p.length - (25 - p.length) = 0 by omega]
    rfl
  rw [if_neg (by rw [g1]; simp), if_neg (fun z => z.elim (fun z => by omega) fun z => z ⟨by omega, by omega⟩), d1, t2, t1, if_neg, if_pos (codes_ok hc), codes_nat, show num / 256 * 256 + num % 256 = num by omega]
  intro z
  rw [List.any_eq_true] at z
  obtain ⟨x, hx, hz⟩ := z
  rw [List.eq_of_mem_replicate hx] at hz
  exact absurd hz (by decide)
theorem cl_int (i : Int) : PyData.canLay0 (.int i) = true := rfl
theorem cl_all {l : List PyData} (h : ∀ d ∈ l, PyData.canLay0 d = true) : PyData.canLayAll0 l = true := by
  induction l with
  | nil => rfl
  | cons a r ih =>
    rw [PyData.canLayAll0, h a List.mem_cons_self, ih fun d hd => h d (List.mem_cons_of_mem _ hd)]
    rfl
theorem dp_all {l : List PyData} {n : Nat} (h : ∀ d ∈ l, d.depth ≤ n) : PyData.depthAll l ≤ n := by
  induction l with
  | nil => exact Nat.zero_le _
  | cons a r ih =>
    rw [PyData.depthAll]
    exact Nat.max_le.mpr ⟨h a List.mem_cons_self, ih fun d hd => h d (List.mem_cons_of_mem _ hd)⟩
theorem sh_of {d : PyData} (h1 : PyData.canLay0 d = true) (h2 : d.depth ≤ 64) : SeqAt.shaped d = true := by
  unfold SeqAt.shaped
  rw [h1, decide_eq_true h2]
  rfl
def rowD (b : List Int) : PyData := .list (b.map PyData.int)
theorem rowD_cl (b : List Int) : PyData.canLay0 (rowD b) = true := cl_all fun d hd => by
  obtain ⟨i, _, rfl⟩ := List.mem_map.mp hd
  rfl
theorem rowD_dp (b : List Int) : (rowD b).depth ≤ 1 := by
  unfold rowD
  rw [PyData.depth]
  have := dp_all (l := b.map PyData.int) (n := 0) fun d hd => by
    obtain ⟨i, _, rfl⟩ := List.mem_map.mp hd
    rw [PyData.depth]; omega
  omega
def blkD (bs : List (List Int)) : PyData := .list (bs.map rowD)
theorem blkD_sh (bs : List (List Int)) : SeqAt.shaped (blkD bs) = true := by
  refine sh_of (cl_all fun d hd => ?_) ?_
  · obtain ⟨b, _, rfl⟩ := List.mem_map.mp hd
    exact rowD_cl b
  · unfold blkD
    rw [PyData.depth]
    have := dp_all (l := bs.map rowD) (n := 1) fun d hd => by
      obtain ⟨b, _, rfl⟩ := List.mem_map.mp hd
      exact rowD_dp b
    omega
theorem blkD_eq (bs : List (List Int)) : PyData.eqv (blkD bs) (blkD bs) = true := SeqAt.eqv_refl _ (SeqAt.canLay_of_shaped (blkD_sh bs))
theorem iv_dp {K : PySem.W.Frag} {H : Hp} : ∀ b : List Int, DpAll K H (iv b) (b.map PyData.int)
  | [] => .nil
  | i :: r => .cons (.int i) (iv_dp r)
theorem blk_dp {K : PySem.W.Frag} {H : Hp} {ws : List V} {bs : List (List Int)} (h : Blks H ws bs) : DpAll K H ws (bs.map rowD) := by
  induction h with
  | nil => exact .nil
  | cons a _ ih =>
    obtain ⟨q, rfl, k⟩ := a
    exact .cons (.lst (SqL.of k) (iv_dp _)) ih
def tolD (i m n : Int) (p : List Nat) : PyData := .tuple [.int i, .int m, .int n, .str (S p)]
theorem tolD_sh {i m n : Int} {p : List Nat} (h : ∀ c ∈ p, isCh c = true) : SeqAt.shaped (tolD i m n p) = true := by
  refine sh_of (cl_all fun d hd => ?_) ?_
  · simp only [List.mem_cons, List.not_mem_nil, or_false] at hd
    rcases hd with rfl | rfl | rfl | rfl
    · rfl
    · rfl
    · rfl
    · show PyData.strOk (S p) = true
      unfold PyData.strOk
      show p.toArray.all _ = true
      rw [List.all_toArray]
      refine List.all_eq_true.mpr fun c hc => decide_eq_true ?_
      have := h c hc
      unfold isCh at this
      have := of_decide_eq_true this
      omega
  · unfold tolD
    simp only [PyData.depth, PyData.depthAll]
    decide
theorem tolD_eq {i m n : Int} {p : List Nat} (h : ∀ c ∈ p, isCh c = true) : PyData.eqv (tolD i m n p) (tolD i m n p) = true := SeqAt.eqv_refl _ (SeqAt.canLay_of_shaped (tolD_sh h))
end K4

set_option maxRecDepth 100000
set_option maxHeartbeats 4000000
/-! the law's own reading of a row -/
namespace K4
open PySem hiding Tok code
open PySem.Spec PyProof.Rows GD K1
open L2 hiding rest
abbrev sDue : Stmt := topS 14
abbrev sReads : Stmt := topS 15
abbrev sTorn : Stmt := topS 16
abbrev sLaw44 : Stmt := topS 17
def SG2 : Str := " !\"#$?&'()*+,-./0123456789:;<=>?@ABCDEFGHIJKLMNOPQRSTUVWXYZ[\\]^_`abcdefghijklmnopqrstuvwxyz{|}~"
theorem sg2_tab : ∀ c ∈ List.range 127, isCh c = true → SG2.cps.toList[c - 32]? = some c := by decide +kernel
theorem sg2_at {c : Nat} (h : isCh c = true) : SG2.cps[c - 32]? = some c := by
  rw [← Array.getElem?_toList]
  refine sg2_tab c (List.mem_range.mpr ?_) h
  unfold isCh at h
  have := of_decide_eq_true h
  omega
theorem sg2_len : SG2.length = 95 := by decide +kernel
theorem okc_none {b0 b1 b2 b3 b4 b5 : Int} {r : List Int} (h : okc (r.take b5.toNat) = false) : decO (b0 :: b1 :: b2 :: b3 :: b4 :: b5 :: r) = none := by
  rw [decO_eq]
  split
  · rfl
  · split
    · rfl
    · split
      · rfl
      · rw [h]
        rfl
theorem okc_bad {l : List Int} {x : Int} (hm : x ∈ l) (h : okc1 x = false) : okc l = false := by
  unfold okc
  cases e : l.all okc1
  · rfl
  · rw [List.all_eq_true.mp e x hm] at h
    cases h
theorem row_nil (l : List Int) : PyData.eqv (rowD l) (.list []) = l.isEmpty := by
  cases l with
  | nil => rfl
  | cons a r => rfl
theorem filt_any (l : List Int) : (l.filter nz).isEmpty = !(l.any fun c => !decide (c = 0)) := by
  induction l with
  | nil => rfl
  | cons a r ih =>
    rw [List.filter_cons, List.any_cons]
    cases e : nz a with
    | true =>
      have : (!decide (a = 0)) = true := e
      rw [this, if_pos rfl]
      rfl
    | false =>
      have : (!decide (a = 0)) = false := e
      rw [this, if_neg Bool.false_ne_true, ih, Bool.false_or]
section
variable {P : Program} {w : World} {K : PySem.W.Frag} {mg : Str → Option Value} {base : Heap}
def spDue (K : PySem.W.Frag) : L2.Sp := fun vs H Q _ => ∃ (a : Addr) (b : List Int), vs = [.ref a] ∧ SqL K H a (iv b) ∧ b.length = 32 ∧ (∀ x ∈ b, 0 ≤ x) ∧ ∀ H' v, Same H H' → DecV H' v (decO b) → Q v H'
theorem scDue : FnScope ["block", "signs", "text", "code", "byte"] ["block"] (defScope sDue) := ⟨rfl, rfl, rfl, by decide +kernel, rfl, by decide +kernel, by decide +kernel⟩
theorem ok_due {f : Addr} {fd : FuncData} (F : Fun K "_law_due_piece" "_law_due_piece" sDue f fd) : FnOk P w K mg base CX0 1 f fd ["block"] (spDue K) := by
  have sc := scDue
  refine F.ok sc (fun vs H Q E h => ?_) (fun cdv A outer s H vs Q E hr h => ?_)
  · obtain ⟨a, b, rfl, _⟩ := h
    rfl
  · obtain ⟨a, b, rfl, hS, hb, hpos, q⟩ := h
    refine ⟨_, (pss_cons (ps_if (PW.pt (pw_or (pt_cmpR op_ne (pe_ix ix_list (pv 0) pe_int (fun _ _ => rfl)) pe_int (nomark _)) (pw_or (pt_cmpR op_ne (pe_ix ix_list (pv 0) pe_int (fun _ _ => rfl)) pe_int (nomark _)) (pw_or (pt_cmpR op_ge (pe_ix ix_list (pv 0) pe_int (fun _ _ => rfl)) (pe_ix ix_list (pv 0) pe_int (fun _ _ => rfl)) (nomark _)) (pw_or (pt_cmpR op_gt (pe_ix ix_list (pv 0) pe_int (fun _ _ => rfl)) pe_int (nomark _)) (pw_or1 (pt_cmpR op_eq (pe_ix ix_list (pv 0) pe_int (fun _ _ => rfl)) pe_int (nomark _))))))))
      (pss_one (ps_ret pe_non))
      pss_nil)
      (pss_cons (ps_set (i := 1) sc.nd rfl (Or.inl rfl) pe_str)
      (pss_cons (ps_set (i := 2) sc.nd rfl (Or.inl rfl) pe_str)
      (pss_cons (ps_for PassesOwn.never rfl (pi_list (pe_slice sl_list (pv 0) (po_some pe_int) (po_some (pe_op op_add pe_int (pe_ix ix_list (pv 0) pe_int (fun _ _ => rfl)))))) (pg_name (i := 3) sc.nd rfl (Or.inl rfl))
      (pss_cons (ps_if (PW.pt (pw_or (pt_cmpR op_eq (pv 3) pe_int (nomark _)) (pw_or (pt_cmpR op_lt (pv 3) pe_int (nomark _)) (pw_or1 (pt_cmpR op_gt (pv 3) pe_int (nomark _))))))
      (pss_one (ps_ret pe_non))
      pss_nil)
      (pss_one (ps_set (i := 2) sc.nd rfl (Or.inl rfl) (pe_op op_add_str (pv 2) (pe_item_str (pv 1) (pe_op op_sub (pv 3) pe_int) (fun _ _ => rfl)))))))
      (pss_cons (ps_if (pt_cmpR (op_neD hr.units) (pe_lc (own := [("byte", 4)]) rfl sc.nd (pi_list (pe_slice sl_list (pv 0) (po_some (pe_op op_add pe_int (pe_ix ix_list (pv 0) pe_int (fun _ _ => rfl)))) (po_some pe_int))) (blkOk_by (own := [("byte", 4)]) (N := ["block", "signs", "text", "code", "byte"]) (sc := defScope sDue) (by decide +kernel)) (fun _ _ _ _ _ => (pg_name (i := 4) sc.nd rfl (Or.inl rfl))) (fun _ _ _ _ _ => (pts_one (pt_cmpR op_ne (pv 4) pe_int (nomark _)))) (fun _ _ _ _ _ => (pv 4))) (pe_lst pa_nil) (nomark _))
      (pss_one (ps_ret pe_non))
      pss_nil)
      (pss_one (ps_ret (pe_tup (pa_cons (pe_ix ix_list (pv 0) pe_int (fun _ _ => rfl)) (pa_cons (pe_ix ix_list (pv 0) pe_int (fun _ _ => rfl)) (pa_cons (pe_op op_add (pe_op op_mul pe_int (pe_ix ix_list (pv 0) pe_int (fun _ _ => rfl))) (pe_ix ix_list (pv 0) pe_int (fun _ _ => rfl))) (pa_cons (pv 2) pa_nil)))))))))))), ?_⟩
    obtain ⟨b0, b1, b2, b3, b4, b5, r, eb, hr26⟩ := six hb
    obtain ⟨last, e31⟩ : ∃ x, r[25]? = some x := ⟨_, List.getElem?_eq_getElem (by omega)⟩
    have bad : ∀ H', Same H H' → decO b = none → Q .non H' := fun H' s e => q H' .non s (by rw [e]; exact rfl)
    have g0 : (iv b)[0]? = some (.int b0) := iv_get (by rw [eb]; rfl)
    have g1 : (iv b)[1]? = some (.int b1) := iv_get (by rw [eb]; rfl)
    have g2 : (iv b)[2]? = some (.int b2) := iv_get (by rw [eb]; rfl)
    have g3 : (iv b)[3]? = some (.int b3) := iv_get (by rw [eb]; rfl)
    have g4 : (iv b)[4]? = some (.int b4) := iv_get (by rw [eb]; rfl)
    have g5 : (iv b)[5]? = some (.int b5) := iv_get (by rw [eb]; rfl)
    have g31 : (iv b)[31]? = some (.int last) := iv_get (by rw [eb]; exact e31)
    have p5 : 0 ≤ b5 := hpos b5 (by rw [eb]; simp)
    refine ⟨_, rfl, a, _, _, _, rfl, rfl, hS, atI_nat (j := 0) g0, rfl, _, rfl, ?_⟩
    by_cases h0 : b0 = 83
    case neg => exact iteY (ne_tt h0) (bad H (Same.refl H) (by rw [eb, decO_eq, if_pos (.inl h0)]))
    refine iteE (ne_ff h0) ?_
    refine ⟨_, rfl, a, _, _, _, rfl, rfl, hS, atI_nat (j := 31) g31, rfl, _, rfl, ?_⟩
    by_cases h1 : last = 83
    case neg => exact iteY (ne_tt h1) (bad H (Same.refl H) (by rw [eb, decO_eq, if_pos (.inr fun z => h1 (by rw [e31] at z; exact Option.some.inj z))]))
    refine iteE (ne_ff h1) ?_
    have ed : decO b = (if b2 ≤ b1 ∨ ¬ (1 ≤ b5 ∧ b5 ≤ 24) then none
      else if ((r.drop b5.toNat).take (25 - b5.toNat)).any (fun c => !decide (c = 0)) = true then none
      else if okc (r.take b5.toNat) = true then some (b1, b2, b3 * 256 + b4, (r.take b5.toNat).map Int.toNat) else none) := by
      rw [eb, decO_eq, if_neg fun z => z.elim (fun z => z h0) fun z => z (by rw [e31, h1])]
    refine ⟨_, rfl, a, _, _, _, rfl, rfl, hS, atI_nat (j := 1) g1, _, rfl, a, _, _, _, rfl, rfl, hS, atI_nat (j := 2) g2, _, _, rfl, rfl, _, rfl, ite2 (fun h2 => ?_) (fun h2 => ?_)⟩
    · have h2 : b2 ≤ b1 := of_decide_eq_true h2
      exact bad _ (Same.refl H) (by rw [ed, if_pos (.inl h2)])
    have h2 : ¬ b2 ≤ b1 := fun z => h2 (decide_eq_true z)
    have out : ¬ (1 ≤ b5 ∧ b5 ≤ 24) → Q .non H := fun n => bad H (Same.refl H) (by rw [ed, if_pos (.inr n)])
    refine ⟨_, rfl, a, _, _, _, rfl, rfl, hS, atI_nat (j := 5) g5, _, _, rfl, rfl, _, rfl, ite2 (fun h3 => ?_) (fun h3 => ?_)⟩
    · have h3 : 24 < b5 := of_decide_eq_true h3
      exact out fun z => by omega
    have h3 : ¬ 24 < b5 := fun z => h3 (decide_eq_true z)
    refine ⟨_, rfl, a, _, _, _, rfl, rfl, hS, atI_nat (j := 5) g5, rfl, _, rfl, ite2 (fun h4 => ?_) (fun h4 => ?_)⟩
    · have h4 : V.int b5 = V.int 0 := of_decide_eq_true h4
      injection h4 with h4
      exact out fun z => by omega
    have h4 : b5 ≠ 0 := fun z => h4 (by rw [z]; exact decide_eq_true rfl)
    obtain ⟨n, rfl⟩ : ∃ n : Nat, b5 = (n : Int) := ⟨b5.toNat, by omega⟩
    have n24 : n ≤ 24 := by omega
    have ed2 : decO b = (if ((r.drop n).take (25 - n)).any (fun c => !decide (c = 0)) = true then none
      else if okc (r.take n) = true then some (b1, b2, b3 * 256 + b4, (r.take n).map Int.toNat) else none) := by
      rw [ed, if_neg fun z => z.elim h2 fun z => z ⟨by omega, by omega⟩, Int.toNat_natCast]
    have ea : (6 : Int) + (n : Int) = ((6 + n : Nat) : Int) := by omega
    have ec : cutV (iv b) (some (6 : Int)) (some ((6 : Int) + (n : Int))) = iv (r.take n) := by
      have := cut_mid hb (m := 6) (n := n) (by omega)
      rw [ea]
      refine this.trans ?_
      rw [eb]
      rfl
    refine ⟨_, rfl, _, rfl, _, rfl, a, _, _, _, rfl, rfl, hS, atI_nat (j := 5) g5, _, _, rfl, rfl, _, rfl, a, _, rfl, hS, fun u nu => ?_⟩
    rw [ec] at *
    have s1 : Same H (upd H u (.lst (iv (r.take n)))) := Same.lst (Same.refl H) nu
    refine ⟨u, rfl, ⟨_, SqL.of upd_same⟩, ?_⟩
    refine for_it (walk_list (K := K) (a := u) (xs := iv (r.take n))) (fun j σ H' => ∃ (y3 : Option V), σ = [some (.ref a), some (.str SG2), some (.str (S (((r.take n).take j).map Int.toNat))), y3, none] ∧ Same (upd H u (.lst (iv (r.take n)))) H' ∧ okc ((r.take n).take j) = true)
      ⟨_, rfl, Same.refl _, rfl⟩ (fun j σ H' _ pv => ?_) (fun j x σ H2 H3 hj pv y => ?_) (fun σ H2 pv => ?_)
    · obtain ⟨_, _, s, _⟩ := pv
      exact SqL.of (s _ _ upd_same)
    · obtain ⟨rfl, hx⟩ := y
      obtain ⟨y3, rfl, s2, ok⟩ := pv
      unfold iv at hx
      rw [List.getElem?_map, Option.map_eq_some_iff] at hx
      obtain ⟨c, hc, rfl⟩ := hx
      have cm := List.mem_of_getElem? hc
      have oute : okc1 c = false → Q .non H3 := fun e => bad _ (strans s1 s2) (by rw [eb]; exact okc_none (by rw [Int.toNat_natCast]; exact okc_bad cm e))
      have nok : ∀ {x : Int}, (x = 37 ∨ x < 32 ∨ 126 < x) → okc1 x = false := fun {x} hx => by
        cases e : okc1 x with
        | false => rfl
        | true =>
          have := (okc1_iff.mp e)
          unfold isCh at this
          have h2 := of_decide_eq_true this.2
          omega
      refine ⟨_, rfl, rfl, _, rfl, ite2 (fun k1 => ?_) (fun k1 => ?_)⟩
      · have k1 : V.int c = V.int 37 := of_decide_eq_true k1
        injection k1 with k1
        exact oute (nok (.inl k1))
      have k1 : c ≠ 37 := fun z => k1 (by rw [z]; exact decide_eq_true rfl)
      refine ⟨_, rfl, _, _, rfl, rfl, _, rfl, ite2 (fun k2 => ?_) (fun k2 => ?_)⟩
      · exact oute (nok (.inr (.inl (of_decide_eq_true k2))))
      have k2 : ¬ c < 32 := fun z => k2 (decide_eq_true z)
      refine ⟨_, rfl, _, _, rfl, rfl, _, rfl, ite2 (fun k3 => ?_) (fun k3 => ?_)⟩
      · exact oute (nok (.inr (.inr (of_decide_eq_true k3))))
      have k3 : ¬ 126 < c := fun z => k3 (decide_eq_true z)
      have ic : isCh c.toNat = true := by
        unfold isCh
        exact decide_eq_true ⟨by omega, by omega, by omega⟩
      have e32 : (c - 32).toNat = c.toNat - 32 := by omega
      refine ⟨_, rfl, _, rfl, _, rfl, _, _, rfl, rfl, SG2, _, c.toNat, rfl, rfl, by omega, by omega, by rw [sg2_len]; omega, by rw [e32]; exact sg2_at ic, _, _, rfl, rfl, ?_, ?_⟩
      · rw [S_len, List.length_map, List.length_take, List.length_take]
        exact szle (by show _ + 1 ≤ 5000; omega)
      · refine ⟨some (.int c), ?_, s2, ?_⟩
        · rw [List.take_add_one, hc, List.map_append, show (⟨#[c.toNat]⟩ : Str) = S [c.toNat] from rfl, S_app]
          rfl
        · rw [List.take_add_one, hc]
          unfold okc
          rw [List.all_append]
          have : ((r.take n).take j).all okc1 = true := ok
          rw [this]
          show ([c].all okc1) = true
          rw [List.all_cons, okc1_iff.mpr ⟨by omega, ic⟩]
          rfl
    obtain ⟨y3, rfl, s2, ok⟩ := pv
    rw [iv_len, List.take_length] at ok ⊢
    have s3 := strans s1 s2
    have ec2 : cutV (iv b) (some ((6 : Int) + (n : Int))) (some (31 : Int)) = iv ((r.drop n).take (25 - n)) := by
      have := cut_mid hb (m := 6 + n) (n := 25 - n) (by omega)
      rw [show 6 + n + (25 - n) = 31 by omega] at this
      rw [ea]
      refine this.trans ?_
      rw [eb]
      have e1 : (b0 :: b1 :: b2 :: b3 :: b4 :: (n : Int) :: r).drop (6 + n) = r.drop n := by
        rw [← List.drop_drop]; rfl
      rw [e1]
    refine ⟨_, rfl, _, rfl, a, _, _, _, rfl, rfl, s3.seq hS, atI_nat (j := 5) g5, _, _, rfl, rfl, _, rfl, _, rfl, a, _, rfl, s3.seq hS, fun w2 nw => ?_⟩
    rw [ec2] at *
    have s4 := snew (o := .lst (iv ((r.drop n).take (25 - n)))) s3 nw
    refine ⟨w2, rfl, ⟨_, SqL.of upd_same⟩, fun D nD => ?_⟩
    refine lc_it (walk_list (K := K) (a := w2) (xs := iv ((r.drop n).take (25 - n)))) (fun j H' => Same (upd H2 w2 (.lst (iv ((r.drop n).take (25 - n))))) H' ∧ H' D = some (.lst (iv ((((r.drop n).take (25 - n)).take j).filter nz))))
      ⟨Same.lst (Same.refl _) nD, upd_same⟩ (fun i H' _ pv => SqL.of (pv.1 _ _ upd_same)) (fun j x H3 H4 hj pv y => ?_) (fun H3 pv => ?_)
    · obtain ⟨rfl, hx⟩ := y
      have hx : (iv ((r.drop n).take (25 - n)))[j]? = some x := hx
      unfold iv at hx
      rw [List.getElem?_map, Option.map_eq_some_iff] at hx
      obtain ⟨i, hi, rfl⟩ := hx
      refine ⟨rfl, _, rfl, rfl, _, rfl, ?_⟩
      have lt : ((((r.drop n).take (25 - n)).take j).filter nz).length ≤ 26 := by
        refine Nat.le_trans (List.length_filter_le _ _) ?_
        rw [List.length_take, List.length_take, List.length_drop]
        omega
      cases e : nz i with
      | true =>
        refine iteY ((nz_v i).trans e) ?_
        refine ⟨_, rfl, _, pv.2, by rw [iv_len]; exact szlt (by omega), Same.lst pv.1 nD, ?_⟩
        rw [upd_same, List.take_add_one, hi, List.filter_append, iv_snoc]
        show _ = some (HO.lst (iv (_ ++ [i].filter nz)))
        rw [List.filter_cons, e]
        rfl
      | false =>
        refine iteE ((nz_v i).trans e) ⟨pv.1, ?_⟩
        rw [List.take_add_one, hi, List.filter_append]
        show _ = some (HO.lst (iv (_ ++ [i].filter nz)))
        rw [List.filter_cons, e, pv.2]
        show _ = some (HO.lst (iv (_ ++ [])))
        rw [List.append_nil]
    rw [iv_len, List.take_length] at pv
    obtain ⟨s5, eD⟩ := pv
    have s6 := strans s4 s5
    refine ⟨Nat.zero_le _, fun E9 nE => ?_⟩
    have s7 := snew (o := .lst []) s6 nE
    have ef := filt_any ((r.drop n).take (25 - n))
    refine ⟨rowD (((r.drop n).take (25 - n)).filter nz), .list [], .lst (SqL.of (by rw [upd_ne (ne_of_none eD nE)]; exact eD)) (iv_dp _), .lst (SqL.of upd_same) .nil, sh_of (rowD_cl _) (Nat.le_trans (rowD_dp _) (by decide)), by decide +kernel, _, rfl, ?_⟩
    by_cases h5 : ((r.drop n).take (25 - n)).any (fun c => !decide (c = 0)) = true
    · exact iteY (by rw [row_nil, ef, h5]; rfl) (bad _ s7 (by rw [ed2, if_pos h5]))
    have h5f : (((r.drop n).take (25 - n)).any fun c => !decide (c = 0)) = false := by
      cases z : ((r.drop n).take (25 - n)).any fun c => !decide (c = 0)
      · rfl
      · exact absurd z h5
    refine iteE (by rw [row_nil, ef, h5f]; rfl) ?_
    have sq := s7.seq hS
    refine ⟨_, rfl, a, _, _, _, rfl, rfl, sq, atI_nat (j := 1) g1, _, rfl, a, _, _, _, rfl, rfl, sq, atI_nat (j := 2) g2, _, rfl, a, _, _, _, rfl, rfl, sq, atI_nat (j := 3) g3, _, _, rfl, rfl, .inl (by decide), _, rfl, a, _, _, _, rfl, rfl, sq, atI_nat (j := 4) g4, _, _, rfl, rfl, _, rfl, (by show 4 ≤ sizeLine; decide), fun p np => ?_⟩
    refine q _ _ (snew s7 np) ?_
    rw [ed2, if_neg h5, if_pos ok]
    refine ⟨p, rfl, ?_⟩
    rw [upd_same, Int.mul_comm 256 b3]
end
end K4

set_option maxRecDepth 100000
set_option maxHeartbeats 4000000
/-! two readings of a row; a torn piece -/
namespace K4
open PySem hiding Tok code
open PySem.Spec PyProof.Rows GD K1
open L2 hiding rest
theorem decO_ch {b : List Int} {i m n : Int} {p : List Nat} (h : decO b = some (i, m, n, p)) : ∀ c ∈ p, isCh c = true := by
  unfold decO at h
  split at h
  · split at h
    · cases h
    · split at h
      · cases h
      · split at h
        · cases h
        · split at h
          · rename_i hk
            injection h with h
            injection h with _ h
            injection h with _ h
            injection h with _ h
            rw [← h]
            intro c hc
            obtain ⟨x, hx, rfl⟩ := List.mem_map.mp hc
            exact (okc1_iff.mp (List.all_eq_true.mp hk x hx)).2
          · cases h
  · cases h
def decD : Option (Int × Int × Int × List Nat) → PyData
  | none => .none
  | some (i, m, n, p) => tolD i m n p
theorem decD_dp {K : PySem.W.Frag} {H : Hp} {v : V} : ∀ {o : Option (Int × Int × Int × List Nat)}, DecV H v o → Dp K H v (decD o)
  | none, h => by
    have h : v = .non := h
    subst h
    exact .non
  | some (i, m, n, p), ⟨q, e, h⟩ => by
    subst e
    exact .tup (SqT.of h) (.cons (.int _) (.cons (.int _) (.cons (.int _) (.cons (.str _) .nil))))
theorem decD_sh {b : List Int} : SeqAt.shaped (decD (decO b)) = true := by
  cases e : decO b with
  | none => decide +kernel
  | some x =>
    obtain ⟨i, m, n, p⟩ := x
    exact tolD_sh (decO_ch e)
theorem decO_first {b : List Int} (h : b[0]? ≠ some 83) : decO b = none := by
  unfold decO
  split
  · rw [if_pos (.inl fun z => h (by rw [z]; rfl))]
  · rfl
theorem decO_last {b : List Int} (h : b[31]? ≠ some 83) : decO b = none := by
  unfold decO
  split
  · rw [if_pos (.inr h)]
  · rfl
def zs32 : List Int := List.replicate 32 0
theorem zs_get {i : Nat} (h : i < 32) : zs32[i]? = some 0 := by
  unfold zs32
  rw [List.getElem?_replicate, if_pos h]
theorem torn_a {b : List Int} (hb : b.length = 32) {m : Nat} (h : m < 32) : decO (b.take m ++ zs32.drop m) = none := by
  refine decO_last ?_
  rw [List.getElem?_append_right (by rw [List.length_take]; omega), List.length_take, hb, Nat.min_eq_left (by omega), List.getElem?_drop, show m + (31 - m) = 31 by omega, zs_get (by decide)]
  decide
theorem torn_b {b : List Int} {m : Nat} (h : 0 < m) (h2 : m ≤ 32) : decO (zs32.take m ++ b.drop m) = none := by
  refine decO_first ?_
  have l : (zs32.take m).length = m := by
    rw [List.length_take]
    have : zs32.length = 32 := rfl
    omega
  rw [List.getElem?_append_left (by omega), List.getElem?_take_of_lt h, zs_get (by decide)]
  decide
theorem cut_from {b : List Int} {m : Nat} (h : m ≤ b.length) : cutV (iv b) (some (m : Int)) none = iv (b.drop m) := by
  unfold cutV
  rw [HT.sIx_nat, HT.sIx_none, iv_len, Nat.min_eq_left h, List.take_of_length_le (by rw [List.length_drop, iv_len]; omega)]
  unfold iv
  rw [List.map_drop]
theorem ne_bl {x y : Bool} (h : x = y) : (!decide (V.bl x = V.bl y)) = false := by rw [h, decide_eq_true rfl]; rfl
section
variable {P : Program} {w : World} {K : PySem.W.Frag} {mg : Str → Option Value} {base : Heap}
def spReads (K : PySem.W.Frag) : L2.Sp := fun vs H Q _ => ∃ (a : Addr) (b : List Int), vs = [.ref a] ∧ SqL K H a (iv b) ∧ b.length = 32 ∧ (∀ x ∈ b, 0 ≤ x) ∧ ∀ H', Same H H' → Q (.bl true) H'
theorem scReads : FnScope ["block", "handed"] ["block"] (defScope sReads) := ⟨rfl, rfl, rfl, by decide +kernel, rfl, by decide +kernel, by decide +kernel⟩
theorem ok_reads {f f1 f2 : Addr} {fd fd1 fd2 : FuncData} (F : Fun K "_law_reads_so" "_law_reads_so" sReads f fd) (T : Txt K mg)
    (G1 : FO P w K mg base CX0 2 "decode_piece" ["block"] (spDec K) f1 fd1) (G2 : FO P w K mg base CX0 1 "_law_due_piece" ["block"] (spDue K) f2 fd2) : FnOk P w K mg base CX0 3 f fd ["block"] (spReads K) := by
  have sc := scReads
  refine F.ok sc (fun vs H Q E h => ?_) (fun cdv A outer s H vs Q E hr h => ?_)
  · obtain ⟨a, b, rfl, _⟩ := h
    rfl
  · obtain ⟨a, b, rfl, hS, hb, hpos, q⟩ := h
    have hr1 := hr.mono (show 1 ≤ 2 by decide)
    refine ⟨_, (pss_cons (ps_set (i := 1) sc.nd rfl (Or.inl rfl) (pe_callTy call_list_of (by rfl) T.blist (by decide +kernel) (pa_cons (pv 0) pa_nil)))
      (pss_one (ps_ret (pe_and (pe_cmpR (op_eqD hr.units) (pe_call G1.ok hr (by rfl) G1.m G1.kp G1.b .nil pass0 (pa_cons (pv 1) pa_nil)) (pe_call G2.ok hr1 (by rfl) G2.m G2.kp G2.b .nil pass0 (pa_cons (pv 0) pa_nil)) (nomark _)) (pe_one (pe_cmpR (op_eqD hr.units) (pv 1) (pv 0) (nomark _))))))), ?_⟩
    refine ⟨_, rfl, a, _, rfl, .inl hS, fun l nl => ?_⟩
    have s1 : Same H (upd H l (.lst (iv b))) := Same.lst (Same.refl H) nl
    refine ⟨_, rfl, l, b, rfl, SqL.of upd_same, hb, fun H2 v1 s2 d1 => ?_⟩
    have s3 := strans s1 s2
    refine ⟨_, rfl, a, b, rfl, s3.seq hS, hb, hpos, fun H3 v2 s4 d2 => ?_⟩
    have s5 := strans s3 s4
    have d1' : DecV H3 v1 (decO b) := by
      revert d1
      cases decO b with
      | none => exact fun z => z
      | some x =>
        obtain ⟨i, m, n, p⟩ := x
        exact fun ⟨q, e, h⟩ => ⟨q, e, s4 _ _ h⟩
    refine ⟨_, _, decD_dp d1', decD_dp d2, decD_sh, decD_sh, _, rfl, iteY (SeqAt.eqv_refl _ (SeqAt.canLay_of_shaped decD_sh)) ?_⟩
    refine ⟨_, rfl, _, rfl, rowD b, rowD b, .lst (SqL.of (s4 _ _ (s2 _ _ upd_same))) (iv_dp _), .lst (s5.seq hS) (iv_dp _), sh_of (rowD_cl _) (Nat.le_trans (rowD_dp _) (by decide)), sh_of (rowD_cl _) (Nat.le_trans (rowD_dp _) (by decide)), ?_⟩
    rw [SeqAt.eqv_refl _ (rowD_cl b)]
    exact q _ s5
def spTorn (K : PySem.W.Frag) : L2.Sp := fun vs H Q _ => ∃ (a : Addr) (b : List Int), vs = [.ref a] ∧ H a = some (.lst (iv b)) ∧ b.length = 32 ∧ decO b ≠ none ∧ ∀ H', Same H H' → Q (.bl true) H'
theorem scTorn : FnScope ["block", "zeros", "many"] ["block"] (defScope sTorn) := ⟨rfl, rfl, rfl, by decide +kernel, rfl, by decide +kernel, by decide +kernel⟩
theorem decV_non {H : Hp} {v : V} {o : Option (Int × Int × Int × List Nat)} (h : DecV H v o) : decide (v = .non) = o.isNone := by
  cases o with
  | none =>
    have h : v = .non := h
    subst h
    rfl
  | some x =>
    obtain ⟨i, m, n, p⟩ := x
    obtain ⟨q, e, _⟩ := h
    subst e
    rfl
theorem ok_torn {f f1 : Addr} {fd fd1 : FuncData} (F : Fun K "_law_torn_piece" "_law_torn_piece" sTorn f fd) (T : Txt K mg)
    (G1 : FO P w K mg base CX0 2 "decode_piece" ["block"] (spDec K) f1 fd1) : FnOk P w K mg base CX0 3 f fd ["block"] (spTorn K) := by
  have sc := scTorn
  refine F.ok sc (fun vs H Q E h => ?_) (fun cdv A outer s H vs Q E hr h => ?_)
  · obtain ⟨a, b, rfl, _⟩ := h
    rfl
  · obtain ⟨a, b, rfl, hS, hb, hd, q⟩ := h
    refine ⟨_, (pss_cons (ps_set (i := 1) sc.nd rfl (Or.inl rfl) (pe_op op_rep (pe_lst (pa_cons pe_int pa_nil)) pe_int))
      (pss_cons (ps_for PassesOwn.never rfl (pi_range1 rfl T.range (pa_cons pe_int pa_nil)) (pg_name (i := 2) sc.nd rfl (Or.inl rfl))
      (pss_cons (ps_if (pt_cmpR op_ne (pe_cmpR op_isN (pe_call G1.ok hr (by rfl) G1.m G1.kp G1.b .nil pass0 (pa_cons (pe_op op_cat (pe_slice sl_list (pv 0) po_none (po_some (pv 2))) (pe_slice sl_list (pv 1) (po_some (pv 2)) po_none)) pa_nil)) pe_non (nomark _)) (pe_cmpR op_lt (pv 2) pe_int (nomark _)) (nomark _))
      (pss_one (ps_ret pe_bl))
      pss_nil)
      (pss_one (ps_if (pt_cmpR op_ne (pe_cmpR op_isN (pe_call G1.ok hr (by rfl) G1.m G1.kp G1.b .nil pass0 (pa_cons (pe_op op_cat (pe_slice sl_list (pv 1) po_none (po_some (pv 2))) (pe_slice sl_list (pv 0) (po_some (pv 2)) po_none)) pa_nil)) pe_non (nomark _)) (pe_cmpR op_gt (pv 2) pe_int (nomark _)) (nomark _))
      (pss_one (ps_ret pe_bl))
      pss_nil))))
      (pss_one (ps_ret pe_bl)))), ?_⟩
    have zl : zs32.length = 32 := rfl
    refine ⟨(by show 1 ≤ sizeLine; decide), fun z nz => ?_⟩
    have s1 : Same H (upd H z (.lst [V.int 0])) := Same.lst (Same.refl H) nz
    refine ⟨z, _, _, rfl, rfl, upd_same, by decide, by decide, by decide, fun l nl => ?_⟩
    have ez : (List.replicate (32 : Int).toNat [V.int 0]).flatten = iv zs32 := by rw [rep_flat]; exact rep_iv 32 0
    rw [ez] at *
    have s2 := snew (o := .lst (iv zs32)) s1 nl
    refine ⟨_, rfl, by decide, by decide, for_range (lo := 0) (n := 33) (fun i σ H' => ∃ (y2 : Option V), σ = [some (.ref a), some (.ref l), y2] ∧ Same (upd (upd H z (.lst [V.int 0])) l (.lst (iv zs32))) H')
      ⟨_, rfl, Same.refl _⟩ ?_ ?_⟩
    rotate_left
    · rintro σ H2 ⟨y2, rfl, s3⟩
      exact q _ (strans s2 s3)
    rintro i σ H2 hi ⟨y2, rfl, s3⟩
    have e0 : (0 : Int) + (i : Nat) = (i : Nat) := by omega
    have ha := s3 _ _ (s2 _ _ hS)
    have hl := s3 _ _ (upd_same (H := upd H z (.lst [V.int 0])) (a := l) (o := .lst (iv zs32)))
    refine ⟨_, rfl, _, rfl, _, rfl, a, _, rfl, SqL.of ha, fun u nu => ?_⟩
    rw [e0, cut_n] at *
    have s4 : Same H2 (upd H2 u (.lst (iv (b.take i)))) := Same.lst (Same.refl _) nu
    refine ⟨_, rfl, _, rfl, _, rfl, l, _, rfl, SqL.of (s4 _ _ hl), fun v nv => ?_⟩
    rw [cut_from (show i ≤ zs32.length by rw [zl]; omega)] at *
    have s5 := snew (o := .lst (iv (zs32.drop i))) s4 nv
    refine ⟨u, v, iv (b.take i), _, rfl, rfl, by rw [upd_ne (ne_of_none upd_same nv)]; exact upd_same, upd_same, ?_, fun p np => ?_⟩
    · rw [iv_len, iv_len, List.length_take, List.length_drop, zl]
      exact szle (by omega)
    rw [iv_app]
    have s6 := snew (o := .lst (iv (b.take i ++ zs32.drop i))) s5 np
    have l1 : (b.take i ++ zs32.drop i).length = 32 := by rw [List.length_append, List.length_take, List.length_drop, zl, hb]; omega
    refine ⟨p, _, rfl, SqL.of upd_same, l1, fun H3 w1 s7 dv => ?_⟩
    have s8 := strans s6 s7
    refine ⟨rfl, _, rfl, _, _, rfl, rfl, rfl, _, rfl, iteE (ne_bl ?_) ?_⟩
    · rw [decV_non dv]
      by_cases h : i < 32
      · rw [torn_a hb h, decide_eq_true (by omega)]
        rfl
      · have e32 : i = 32 := by omega
        subst e32
        rw [decide_eq_false (by omega), List.take_of_length_le (by omega), List.drop_of_length_le (by rw [zl]; omega), List.append_nil]
        cases e : decO b with
        | none => exact absurd e hd
        | some x => rfl
    have ha3 := s8 _ _ ha
    have hl3 := s8 _ _ hl
    refine ⟨_, rfl, _, rfl, _, rfl, l, _, rfl, SqL.of hl3, fun u2 nu2 => ?_⟩
    rw [cut_n] at *
    have t4 : Same H3 (upd H3 u2 (.lst (iv (zs32.take i)))) := Same.lst (Same.refl _) nu2
    refine ⟨_, rfl, _, rfl, _, rfl, a, _, rfl, SqL.of (t4 _ _ ha3), fun v2 nv2 => ?_⟩
    rw [cut_from (show i ≤ b.length by rw [hb]; omega)] at *
    have t5 := snew (o := .lst (iv (b.drop i))) t4 nv2
    refine ⟨u2, v2, iv (zs32.take i), _, rfl, rfl, by rw [upd_ne (ne_of_none upd_same nv2)]; exact upd_same, upd_same, ?_, fun p2 np2 => ?_⟩
    · rw [iv_len, iv_len, List.length_take, List.length_drop, zl]
      exact szle (by omega)
    rw [iv_app]
    have t6 := snew (o := .lst (iv (zs32.take i ++ b.drop i))) t5 np2
    have l2 : (zs32.take i ++ b.drop i).length = 32 := by rw [List.length_append, List.length_take, List.length_drop, zl, hb]; omega
    refine ⟨p2, _, rfl, SqL.of upd_same, l2, fun H4 w2 t7 dv2 => ?_⟩
    have t8 := strans t6 t7
    refine ⟨rfl, _, rfl, _, _, rfl, rfl, rfl, _, rfl, iteE (ne_bl ?_) ?_⟩
    · rw [decV_non dv2]
      by_cases h : 0 < i
      · rw [torn_b h (by omega), decide_eq_true (by omega)]
        rfl
      · have e00 : i = 0 := by omega
        subst e00
        rw [decide_eq_false (by omega), List.take_zero, List.drop_zero, List.nil_append]
        cases e : decO b with
        | none => exact absurd e hd
        | some x => rfl
    exact ⟨_, rfl, strans s3 (strans s8 t8)⟩
end
end K4

set_option maxRecDepth 100000
set_option maxHeartbeats 16000000
/-! the law of rows -/
namespace K4
open PySem hiding Tok code
open PySem.Spec PyProof.Rows GD K1
open L2 hiding rest
theorem ixN_nat {n j : Nat} (h : j < n) : ixN n ((j : Nat) : Int) = some j := by
  unfold ixN
  rw [if_pos (by omega), if_pos (by omega), Int.toNat_natCast]
theorem menu14 (x : Int) (hx : 0 ≤ x) (j : Nat) (h : j < 14) : ∃ y : Int, ([V.int 0, .int 10, .int 11, .int 24, .int 31, .int 32, .int 37, .int 72, .int 80, .int 83, .int 126, .int 127, .int 255, .int x] : List V)[j]? = some (.int y) ∧ 0 ≤ y := by
  match j, h with
  | 0, _ => exact ⟨_, rfl, by decide⟩
  | 1, _ => exact ⟨_, rfl, by decide⟩
  | 2, _ => exact ⟨_, rfl, by decide⟩
  | 3, _ => exact ⟨_, rfl, by decide⟩
  | 4, _ => exact ⟨_, rfl, by decide⟩
  | 5, _ => exact ⟨_, rfl, by decide⟩
  | 6, _ => exact ⟨_, rfl, by decide⟩
  | 7, _ => exact ⟨_, rfl, by decide⟩
  | 8, _ => exact ⟨_, rfl, by decide⟩
  | 9, _ => exact ⟨_, rfl, by decide⟩
  | 10, _ => exact ⟨_, rfl, by decide⟩
  | 11, _ => exact ⟨_, rfl, by decide⟩
  | 12, _ => exact ⟨_, rfl, by decide⟩
  | 13, _ => exact ⟨_, rfl, hx⟩
theorem iv_set (l : List Int) (j : Nat) (x : Int) : (iv l).set j (.int x) = iv (l.set j x) := by
  unfold iv
  rw [List.map_set]
/-- a row of 32 numbers, none below zero -/
def Row (b : List Int) : Prop := b.length = 32 ∧ ∀ x ∈ b, 0 ≤ x
theorem Row.set {b : List Int} (h : Row b) (j : Nat) {x : Int} (hx : 0 ≤ x) : Row (b.set j x) := by
  refine ⟨by rw [List.length_set]; exact h.1, fun y hy => ?_⟩
  rcases List.mem_or_eq_of_mem_set hy with hy | rfl
  · exact h.2 y hy
  · exact hx
theorem enc_row {i many num : Int} {p : List Nat} (h1 : 0 ≤ i) (h2 : 0 ≤ many) (h3 : 0 ≤ num) (hp : p.length ≤ 24) : Row (enc i many num p) := by
  refine ⟨enc_len hp, fun x hx => ?_⟩
  unfold enc codes at hx
  simp only [List.mem_append, List.mem_cons, List.not_mem_nil, or_false, List.mem_map, List.mem_replicate] at hx
  rcases hx with ((hx | hx) | hx) | hx
  · rcases hx with rfl | rfl | rfl | rfl | rfl | rfl <;> omega
  · obtain ⟨c, _, rfl⟩ := hx
    omega
  · omega
  · omega
section
variable {P : Program} {w : World} {K : PySem.W.Frag} {mg : Str → Option Value} {base : Heap}
def spLaw (K : PySem.W.Frag) : L2.Sp := fun vs H Q _ => ∃ (a : Addr) (ns : List Int), vs = [.ref a] ∧ SqL K H a (ns.map V.int) ∧ ∀ H', Q (.bl true) H'
theorem scLaw : FnScope ["script", "box", "turn", "number", "rows", "block", "step", "other", "k"] ["script"] (defScope sLaw44) := ⟨rfl, rfl, rfl, by decide +kernel, rfl, by decide +kernel, by decide +kernel⟩
theorem ok_law44 {f f1 f2 f3 f4 f5 f6 : Addr} {fd g1 g2 g3 g4 g5 g6 : FuncData} (F : Fun K "law" "law" sLaw44 f fd) (T : Txt K mg)
    (G1 : FO P w K mg base CX0 2 "_law_digits" ["script", "first", "last"] (spDigits K) f1 g1) (G2 : FO P w K mg base CX0 1 "_law_draw" ["box", "many"] spDraw f2 g2)
    (G3 : FO P w K mg base CX0 2 "_law_signs" ["box", "many"] spLSigns f3 g3) (G4 : FO P w K mg base CX0 1 "_law_pieces" ["number", "text"] spLPieces f4 g4)
    (G5 : FO P w K mg base CX0 3 "_law_torn_piece" ["block"] (spTorn K) f5 g5) (G6 : FO P w K mg base CX0 3 "_law_reads_so" ["block"] (spReads K) f6 g6) :
    FnG P w K mg base CX0 4 f fd ["script"] (spLaw K) := by
  have sc := scLaw
  refine okG F sc (fun vs H Q E h => ?_) (fun cdv A outer s H vs Q E hgd hr h => ?_)
  · obtain ⟨a, ns, rfl, _⟩ := h
    rfl
  · obtain ⟨a, ns, rfl, hS, q⟩ := h
    have hr1 := hr.mono (show 1 ≤ 3 by decide)
    have hr2 := hr.mono (show 2 ≤ 3 by decide)
    refine ⟨_, (pss_cons (ps_set (i := 1) sc.nd rfl (Or.inr rfl) (pe_lst (pa_cons (pe_call G1.ok hr2 (by rfl) G1.m G1.kp G1.b .nil pass0 (pa_cons (pv 0) (pa_cons pe_int (pa_cons pe_int pa_nil)))) (pa_cons pe_int pa_nil))))
      (pss_cons (ps_for PassesOwn.never rfl (pi_range1 rfl T.range (pa_cons pe_int pa_nil)) (pg_name (i := 2) sc.nd rfl (Or.inl rfl))
      (pss_cons (ps_set (i := 3) sc.nd rfl (Or.inl rfl) (pe_op op_mod (pe_callTy call_int1 (by rfl) T.bint (by decide +kernel) (pa_cons (pe_op op_add (pe_op op_mul (pe_call G2.ok hr1 (by rfl) G2.m G2.kp G2.b .nil pass0 (pa_cons (pv 1) (pa_cons pe_int pa_nil))) pe_int) (pe_call G2.ok hr1 (by rfl) G2.m G2.kp G2.b .nil pass0 (pa_cons (pv 1) (pa_cons pe_int pa_nil)))) pa_nil)) pe_int))
      (pss_cons (ps_set (i := 4) sc.nd rfl (Or.inl rfl) (pe_call G4.ok hr1 (by rfl) G4.m G4.kp G4.b .nil pass0 (pa_cons (pv 3) (pa_cons (pe_call G3.ok hr2 (by rfl) G3.m G3.kp G3.b .nil pass0 (pa_cons (pv 1) (pa_cons (pe_op op_add pe_int (pe_call G2.ok hr1 (by rfl) G2.m G2.kp G2.b .nil pass0 (pa_cons (pv 1) (pa_cons pe_int pa_nil)))) pa_nil))) pa_nil))))
      (pss_cons (ps_set (i := 5) sc.nd rfl (Or.inl rfl) (pe_ix ix_list (pv 4) (pe_call G2.ok hr1 (by rfl) G2.m G2.kp G2.b .nil pass0 (pa_cons (pv 1) (pa_cons (pe_callB call_len_seq (by rfl) T.len (by decide +kernel) (pa_cons (pv 4) pa_nil)) pa_nil))) (fun _ _ => rfl)))
      (pss_cons (ps_if (pt_not (pt_val (pe_call G5.ok hr (by rfl) G5.m G5.kp G5.b .nil pass0 (pa_cons (pv 5) pa_nil))))
      (pss_one (ps_ret pe_bl))
      pss_nil)
      (pss_cons (ps_for PassesOwn.never rfl (pi_range1 rfl T.range (pa_cons (pe_call G2.ok hr1 (by rfl) G2.m G2.kp G2.b .nil pass0 (pa_cons (pv 1) (pa_cons pe_int pa_nil))) pa_nil)) (pg_name (i := 6) sc.nd rfl (Or.inl rfl))
      (pss_one (ps_asg (pe_ix ix_list (pe_lst (pa_cons pe_int (pa_cons pe_int (pa_cons pe_int (pa_cons pe_int (pa_cons pe_int (pa_cons pe_int (pa_cons pe_int (pa_cons pe_int (pa_cons pe_int (pa_cons pe_int (pa_cons pe_int (pa_cons pe_int (pa_cons pe_int (pa_cons (pe_call G2.ok hr1 (by rfl) G2.m G2.kp G2.b .nil pass0 (pa_cons (pv 1) (pa_cons pe_int pa_nil))) pa_nil))))))))))))))) (pe_call G2.ok hr1 (by rfl) G2.m G2.kp G2.b .nil pass0 (pa_cons (pv 1) (pa_cons pe_int pa_nil))) (fun _ _ => rfl)) (pg_sub (pv 5) (pe_call G2.ok hr1 (by rfl) G2.m G2.kp G2.b .nil pass0 (pa_cons (pv 1) (pa_cons pe_int pa_nil))) set_list))))
      (pss_cons (ps_setLc (i := 7) (own := [("k", 8)]) rfl sc.nd rfl rfl (sw_true rfl rfl rfl (by decide +kernel)) (pi_range1 rfl T.range (pa_cons pe_int pa_nil)) (blkOk_by (own := [("k", 8)]) (N := ["script", "box", "turn", "number", "rows", "block", "step", "other", "k"]) (sc := defScope sLaw44) (by decide +kernel)) (fun _ _ _ _ _ => (pg_name (i := 8) sc.nd rfl (Or.inl rfl))) (fun _ _ _ _ _ => pts_nil) (fun _ _ _ _ _ => (pe_call G2.ok hr1 (by rfl) G2.m G2.kp G2.b .nil pass0 (pa_cons (pv 1) (pa_cons pe_int pa_nil)))))
      (pss_cons (ps_asg pe_int (pg_sub (pv 7) pe_int set_list))
      (pss_cons (ps_asg pe_int (pg_sub (pv 7) pe_int set_list))
      (pss_one (ps_if (PW.pt (pw_or (pt_not (pt_val (pe_call G6.ok hr (by rfl) G6.m G6.kp G6.b .nil pass0 (pa_cons (pv 5) pa_nil)))) (pw_or1 (pt_not (pt_val (pe_call G6.ok hr (by rfl) G6.m G6.kp G6.b .nil pass0 (pa_cons (pv 7) pa_nil)))))))
      (pss_one (ps_ret pe_bl))
      pss_nil)))))))))))
      (pss_one (ps_ret (pe_call G6.ok hr (by rfl) G6.m G6.kp G6.b .nil pass0 (pa_cons (pe_op op_rep (pe_lst (pa_cons pe_int pa_nil)) pe_int) pa_nil)))))), ?_⟩
    refine ⟨_, rfl, a, ns, rfl, hS, fun H1 d ds s1 nd ed ld => ⟨(by show 2 ≤ sizeLine; decide), fun b nb => ?_⟩⟩
    have B0 : Box (upd H1 b (.lst [.ref d, .int 0])) b d ds 0 := ⟨upd_same, by rw [upd_ne (ne_of_none ed nb)]; exact ed, ld⟩
    refine ⟨_, rfl, by decide, by decide, for_range (lo := 0) (n := 10) (fun i σ H' => ∃ (n : Nat) (y2 y3 y4 y5 y6 y7 : Option V), σ = [some (.ref a), some (.ref b), y2, y3, y4, y5, y6, y7, none] ∧ Box H' b d ds n)
      ⟨0, none, none, none, none, none, none, rfl, B0⟩ ?_ ?_⟩
    rotate_left
    · rintro σ H2 ⟨n, y2, y3, y4, y5, y6, y7, rfl, _⟩
      refine ⟨(by show 1 ≤ sizeLine; decide), fun z nz => ⟨z, _, _, rfl, rfl, upd_same, by decide, by decide, by decide, fun l nl => ?_⟩⟩
      have ez : (List.replicate (32 : Int).toNat [V.int 0]).flatten = iv zs32 := by rw [rep_flat]; exact rep_iv 32 0
      rw [ez] at *
      exact ⟨l, zs32, rfl, SqL.of upd_same, rfl, fun x hx => by rw [List.eq_of_mem_replicate hx]; decide, fun H' _ => q H'⟩
    rintro i σ Ha hi ⟨n, y2, y3, y4, y5, y6, y7, rfl, ba⟩
    refine ⟨_, rfl, b, d, ds, n, 66, rfl, ba, by decide, fun r1 r1a r1b => ⟨_, _, rfl, rfl, .inr (by decide), ?_⟩⟩
    have v1 := (Bs.refl ba).draw
    refine ⟨_, rfl, b, d, ds, _, 1000, rfl, v1.box, by decide, fun r2 r2a r2b => ⟨_, _, rfl, rfl, .inl ⟨_, rfl, _, _, rfl, rfl, (by show (0 : Int) < 65536; decide), ?_⟩⟩⟩
    have v2 := v1.draw
    have n0 : 0 ≤ (r1 * 1000 + r2) % 65536 := by omega
    refine ⟨_, rfl, _, rfl, _, rfl, b, d, ds, _, 60, rfl, v2.box, by decide, fun ra ra0 ra1 => ?_⟩
    obtain ⟨ja, rfl, hja⟩ := idx (m := 60) ra0 ra1
    have v3 := v2.draw
    refine ⟨_, _, rfl, rfl, b, d, ds, _, 1 + ja, by rw [show ((1 + ja : Nat) : Int) = 1 + (ja : Int) by omega]; rfl, v3.box, by omega, by omega, fun H2 L n2 bs ll hL => ?_⟩
    have v4 := v3.trans bs
    refine ⟨_, L, rfl, by omega, fun H3 D1 ws s3 nD1 e1 bl fr => ?_⟩
    have b3 : Box H3 b d ds n2 := ⟨s3 _ _ bs.box.1, s3 _ _ bs.box.2.1, bs.box.2.2⟩
    have wl : ws.length = cnt L := by
      have := bl.len
      unfold encR at this
      rw [List.length_map, List.length_range] at this
      exact this
    have cp : 1 ≤ cnt L := by unfold cnt; omega
    have nDb : D1 ≠ b := fun z => by rw [z, bs.box.1] at nD1; cases nD1
    refine ⟨_, rfl, _, rfl, _, rfl, D1, _, rfl, .inl (SqL.of e1), b, d, ds, _, _, rfl, b3, by rw [wl]; omega, fun rk rk0 rk1 => ?_⟩
    rw [wl] at rk1
    obtain ⟨k, rfl, hk⟩ := idx rk0 rk1
    obtain ⟨v, hv, qk, rfl, hq⟩ := bl.get (i := k) (b := enc (k : Nat) (cnt L : Nat) ((r1 * 1000 + r2) % 65536) (piece L k)) (range_get _ hk)
    have fq := fr qk (List.mem_of_getElem? hv)
    have nqb : qk ≠ b := fun z => by rw [z, bs.box.1] at fq; cases fq
    have nqd : qk ≠ d := fun z => by rw [z, bs.box.2.1] at fq; cases fq
    have pl := piece_len L k
    have pc : ∀ c ∈ piece L k, isCh c = true := fun c hc => hL c (piece_mem hc)
    have b4 := b3.draw
    refine ⟨D1, _, _, _, rfl, rfl, SqL.of (by rw [upd_ne nDb]; exact e1), atI_nat hv, ?_⟩
    have hq4 : (upd H3 b (.lst [.ref d, .int ((n2 + 1 : Nat) : Int)])) qk = some (.lst (iv (enc (k : Nat) (cnt L : Nat) ((r1 * 1000 + r2) % 65536) (piece L k)))) := by rw [upd_ne nqb]; exact hq
    have r0 := enc_row (i := (k : Nat)) (many := (cnt L : Nat)) (num := (r1 * 1000 + r2) % 65536) (p := piece L k) (by omega) (by omega) n0 pl
    refine ⟨_, rfl, qk, _, rfl, hq4, r0.1, by rw [dec_enc (by omega) n0 (piece_pos hk) pl pc]; simp, fun H5 s5 => ⟨_, rfl, iteF ?_⟩⟩
    have b5 : Box H5 b d ds (n2 + 1) := ⟨s5 _ _ b4.1, s5 _ _ b4.2.1, b4.2.2⟩
    have hq5 := s5 _ _ hq4
    refine ⟨_, rfl, b, d, ds, _, 3, rfl, b5, by decide, fun rt rt0 rt1 => ?_⟩
    obtain ⟨t, rfl, ht⟩ := idx (m := 3) rt0 rt1
    refine ⟨_, rfl, by omega, by omega, ?_⟩
    rw [Int.toNat_natCast]
    refine for_range (lo := 0) (n := t) (fun st σ H' => ∃ (n' : Nat) (bb : List Int) (y6 : Option V), σ = [some (.ref a), some (.ref b), some (.int (0 + (i : Nat))), some (.int ((r1 * 1000 + r2) % 65536)), some (.ref D1), some (.ref qk), y6, y7, none] ∧ Box H' b d ds n' ∧ H' qk = some (.lst (iv bb)) ∧ Row bb)
      ⟨_, _, _, rfl, b5.draw, by rw [upd_ne nqb]; exact hq5, r0⟩ ?_ ?_
    · rintro st σ H6 hst ⟨n', bb, y6, rfl, b6, hq6, r6⟩
      refine ⟨_, rfl, b, d, ds, _, 256, rfl, b6, by decide, fun rv rv0 rv1 => ⟨(by show 14 ≤ sizeLine; decide), fun l nl => ?_⟩⟩
      have b7 := b6.draw.new (o := .lst [V.int 0, .int 10, .int 11, .int 24, .int 31, .int 32, .int 37, .int 72, .int 80, .int 83, .int 126, .int 127, .int 255, .int rv]) nl
      have nlb : l ≠ b := fun z => by rw [z, b6.draw.1] at nl; cases nl
      have nlq : l ≠ qk := fun z => by rw [z, upd_ne nqb, hq6] at nl; cases nl
      refine ⟨_, rfl, b, d, ds, _, 14, rfl, b7, by decide, fun rj rj0 rj1 => ?_⟩
      obtain ⟨j, rfl, hj⟩ := idx (m := 14) rj0 rj1
      obtain ⟨y, hy, y0⟩ := menu14 rv rv0 j hj
      refine ⟨l, _, _, _, rfl, rfl, SqL.of (by rw [upd_ne nlb]; exact upd_same), atI_nat hy, ?_⟩
      have b8 := b7.draw
      refine ⟨_, rfl, _, rfl, b, d, ds, _, 32, rfl, b8, by decide, fun rp rp0 rp1 => ?_⟩
      obtain ⟨pp, rfl, hpp⟩ := idx (m := 32) rp0 rp1
      have b9 := b8.draw
      have hq9 : (upd (upd (upd (upd H6 b (.lst [.ref d, .int ((n' + 1 : Nat) : Int)])) l (.lst [V.int 0, .int 10, .int 11, .int 24, .int 31, .int 32, .int 37, .int 72, .int 80, .int 83, .int 126, .int 127, .int 255, .int rv])) b (.lst [.ref d, .int ((n' + 1 + 1 : Nat) : Int)])) b (.lst [.ref d, .int ((n' + 1 + 1 + 1 : Nat) : Int)])) qk = some (.lst (iv bb)) := by
        rw [upd_ne nqb, upd_ne nqb, upd_ne nlq.symm, upd_ne nqb]
        exact hq6
      refine ⟨qk, _, _, pp, rfl, rfl, hq9, ixN_nat (by rw [iv_len, r6.1]; exact hpp), ?_⟩
      rw [iv_set]
      refine ⟨n' + 1 + 1 + 1, bb.set pp y, _, rfl, ⟨?_, ?_, b9.2.2⟩, upd_same, r6.set pp y0⟩
      · rw [upd_ne nqb.symm]; exact b9.1
      · rw [upd_ne nqd.symm]; exact b9.2.1
    rintro σ H6 ⟨n', bb, y6, rfl, b6, hq6, r6⟩
    refine ⟨_, rfl, by decide, by decide, fun D nD => ?_⟩
    have nDb2 : D ≠ b := fun z => by rw [z, b6.1] at nD; cases nD
    have nDd2 : D ≠ d := fun z => by rw [z, b6.2.1] at nD; cases nD
    have nDq : D ≠ qk := fun z => by rw [z, hq6] at nD; cases nD
    refine lc_range (lo := 0) (n := 32) (fun k H' => ∃ (n' : Nat) (os : List Int), Box H' b d ds n' ∧ H' D = some (.lst (iv os)) ∧ os.length = k ∧ (∀ x ∈ os, 0 ≤ x) ∧ H' qk = some (.lst (iv bb)))
      ⟨n', [], b6.new nD, upd_same, rfl, fun x hx => (by cases hx), by rw [upd_ne nDq.symm]; exact hq6⟩ (fun k H7 hk ⟨n7, os, b7, e7, l7, p7, q7⟩ => ?_) (fun H7 ⟨n7, os, b7, e7, l7, p7, q7⟩ => ?_)
    · refine ⟨rfl, _, rfl, b, d, ds, _, 256, rfl, b7, by decide, fun ro ro0 ro1 => ?_⟩
      have b8 := b7.draw
      refine ⟨iv os, by rw [upd_ne nDb2]; exact e7, by rw [iv_len, l7]; exact szlt (by omega), n7 + 1, os ++ [ro], ⟨?_, ?_, b8.2.2⟩, ?_, ?_, ?_, ?_⟩
      · rw [upd_ne nDb2.symm]; exact b8.1
      · rw [upd_ne nDd2.symm]; exact b8.2.1
      · rw [upd_same, iv_snoc]
      · rw [List.length_append, l7]; rfl
      · intro x hx
        rcases List.mem_append.mp hx with hx | hx
        · exact p7 x hx
        · rw [List.mem_singleton.mp hx]; exact ro0
      · rw [upd_ne nDq.symm, upd_ne nqb]; exact q7
    have ro : Row os := ⟨l7, p7⟩
    refine ⟨_, rfl, D, _, _, 0, rfl, rfl, e7, by rw [iv_len, l7]; rfl, ?_⟩
    rw [iv_set]
    refine ⟨_, rfl, D, _, _, 31, rfl, rfl, upd_same, by rw [iv_len, List.length_set, l7]; rfl, ?_⟩
    rw [iv_set]
    have ro2 := (ro.set 0 (x := 83) (by decide)).set 31 (x := 83) (by decide)
    have q8 : (upd (upd H7 D (.lst (iv (os.set 0 83)))) D (.lst (iv ((os.set 0 83).set 31 83)))) qk = some (.lst (iv bb)) := by rw [upd_ne nDq.symm, upd_ne nDq.symm]; exact q7
    refine ⟨_, rfl, qk, bb, rfl, SqL.of q8, r6.1, r6.2, fun H8 s8 => ⟨_, rfl, iteF ?_⟩⟩
    refine ⟨_, rfl, D, _, rfl, SqL.of (s8 _ _ upd_same), ro2.1, ro2.2, fun H9 s9 => ⟨_, rfl, iteF ?_⟩⟩
    refine ⟨n7, _, _, _, _, _, _, rfl, s9 _ _ (s8 _ _ ?_), s9 _ _ (s8 _ _ ?_), b7.2.2⟩
    · rw [upd_ne nDb2.symm, upd_ne nDb2.symm]; exact b7.1
    · rw [upd_ne nDd2.symm, upd_ne nDd2.symm]; exact b7.2.1
end
end K4

set_option maxRecDepth 100000
set_option maxHeartbeats 16000000
namespace K4
open PySem hiding Tok code
open PySem.Spec PyProof.Rows GD K1
open L2 hiding rest
abbrev sLaw : Stmt := topS 17

theorem end_at {l : PySem.W.OpenLaw} {q : Program} {w : World} {K : PySem.W.Frag} {h : Heap} {mg : Str → Option Value} {fa : Addr} (X : K.In h) (G : h.Ns mainGlobals mg) (hfa : mg "law" = some (.ref fa)) (TB : TabsAt q K mg h)
    {f1 f2 f3 f4 f5 f6 f7 f8 f9 f10 f11     : Addr} {od1 an1 od2 an2 od3 an3 od4 an4 od5 an5 od6 an6 od7 an7 od8 an8 od9 an9 od10 an10 od11 an11   : Option Addr} {sl1 sl2 sl3 sl4 sl5 sl6 sl7 sl8 sl9 sl10 sl11   : Array (Option Value)}
    {oc1 kV1 dc1 pm1 ct1 oc2 kV2 dc2 pm2 ct2 oc3 kV3 dc3 pm3 ct3 oc4 kV4 dc4 pm4 ct4 oc5 kV5 dc5 pm5 ct5 oc6 kV6 dc6 pm6 ct6 oc7 kV7 dc7 pm7 ct7 oc8 kV8 dc8 pm8 ct8 oc9 kV9 dc9 pm9 ct9 oc10 kV10 dc10 pm10 ct10 oc11 kV11 dc11 pm11 ct11 cd1 cd2 cd3 cd4 cd5 cd6 cd7 cd8 cd9 cd10 cd11  : Value}  {t_BLOCK t_MARK t_HEAD t_PIECE t_CHARACTERS  : PySem.Tok} 
    (a1 : PySem.W.nsIn K mainGlobals "decode_piece" = some (some (.ref f1)))
    (l1 : K.lookup f1 = some ⟨oc1, od1, .func (PySem.W.fnOf "decode_piece" "decode_piece" (defArgs sDec) (defBody sDec) (defScope sDec) .none kV1 dc1 pm1 an1 cd1 ct1), sl1⟩)
    (c1 : PySem.W.codeIn K cd1 "decode_piece" = true)
    (k1 : PySem.W.keepIn K (.ref f1) = true)
    (a2 : PySem.W.nsIn K mainGlobals "characters_of" = some (some (.ref f2)))
    (l2 : K.lookup f2 = some ⟨oc2, od2, .func (PySem.W.fnOf "characters_of" "characters_of" (defArgs sChOf) (defBody sChOf) (defScope sChOf) .none kV2 dc2 pm2 an2 cd2 ct2), sl2⟩)
    (c2 : PySem.W.codeIn K cd2 "characters_of" = true)
    (k2 : PySem.W.keepIn K (.ref f2) = true)
    (a3 : PySem.W.nsIn K mainGlobals "_law_cell" = some (some (.ref f3)))
    (l3 : K.lookup f3 = some ⟨oc3, od3, .func (PySem.W.fnOf "_law_cell" "_law_cell" (defArgs sCell) (defBody sCell) (defScope sCell) .none kV3 dc3 pm3 an3 cd3 ct3), sl3⟩)
    (c3 : PySem.W.codeIn K cd3 "_law_cell" = true)
    (k3 : PySem.W.keepIn K (.ref f3) = true)
    (a4 : PySem.W.nsIn K mainGlobals "_law_digits" = some (some (.ref f4)))
    (l4 : K.lookup f4 = some ⟨oc4, od4, .func (PySem.W.fnOf "_law_digits" "_law_digits" (defArgs sDigits) (defBody sDigits) (defScope sDigits) .none kV4 dc4 pm4 an4 cd4 ct4), sl4⟩)
    (c4 : PySem.W.codeIn K cd4 "_law_digits" = true)
    (k4 : PySem.W.keepIn K (.ref f4) = true)
    (a5 : PySem.W.nsIn K mainGlobals "_law_draw" = some (some (.ref f5)))
    (l5 : K.lookup f5 = some ⟨oc5, od5, .func (PySem.W.fnOf "_law_draw" "_law_draw" (defArgs sDraw) (defBody sDraw) (defScope sDraw) .none kV5 dc5 pm5 an5 cd5 ct5), sl5⟩)
    (c5 : PySem.W.codeIn K cd5 "_law_draw" = true)
    (k5 : PySem.W.keepIn K (.ref f5) = true)
    (a6 : PySem.W.nsIn K mainGlobals "_law_pieces" = some (some (.ref f6)))
    (l6 : K.lookup f6 = some ⟨oc6, od6, .func (PySem.W.fnOf "_law_pieces" "_law_pieces" (defArgs sLPieces) (defBody sLPieces) (defScope sLPieces) .none kV6 dc6 pm6 an6 cd6 ct6), sl6⟩)
    (c6 : PySem.W.codeIn K cd6 "_law_pieces" = true)
    (k6 : PySem.W.keepIn K (.ref f6) = true)
    (a7 : PySem.W.nsIn K mainGlobals "_law_signs" = some (some (.ref f7)))
    (l7 : K.lookup f7 = some ⟨oc7, od7, .func (PySem.W.fnOf "_law_signs" "_law_signs" (defArgs sLSigns) (defBody sLSigns) (defScope sLSigns) .none kV7 dc7 pm7 an7 cd7 ct7), sl7⟩)
    (c7 : PySem.W.codeIn K cd7 "_law_signs" = true)
    (k7 : PySem.W.keepIn K (.ref f7) = true)
    (a8 : PySem.W.nsIn K mainGlobals "_law_due_piece" = some (some (.ref f8)))
    (l8 : K.lookup f8 = some ⟨oc8, od8, .func (PySem.W.fnOf "_law_due_piece" "_law_due_piece" (defArgs sDue) (defBody sDue) (defScope sDue) .none kV8 dc8 pm8 an8 cd8 ct8), sl8⟩)
    (c8 : PySem.W.codeIn K cd8 "_law_due_piece" = true)
    (k8 : PySem.W.keepIn K (.ref f8) = true)
    (a9 : PySem.W.nsIn K mainGlobals "_law_reads_so" = some (some (.ref f9)))
    (l9 : K.lookup f9 = some ⟨oc9, od9, .func (PySem.W.fnOf "_law_reads_so" "_law_reads_so" (defArgs sReads) (defBody sReads) (defScope sReads) .none kV9 dc9 pm9 an9 cd9 ct9), sl9⟩)
    (c9 : PySem.W.codeIn K cd9 "_law_reads_so" = true)
    (k9 : PySem.W.keepIn K (.ref f9) = true)
    (a10 : PySem.W.nsIn K mainGlobals "_law_torn_piece" = some (some (.ref f10)))
    (l10 : K.lookup f10 = some ⟨oc10, od10, .func (PySem.W.fnOf "_law_torn_piece" "_law_torn_piece" (defArgs sTorn) (defBody sTorn) (defScope sTorn) .none kV10 dc10 pm10 an10 cd10 ct10), sl10⟩)
    (c10 : PySem.W.codeIn K cd10 "_law_torn_piece" = true)
    (k10 : PySem.W.keepIn K (.ref f10) = true)
    (a11 : PySem.W.nsIn K mainGlobals "law" = some (some (.ref f11)))
    (l11 : K.lookup f11 = some ⟨oc11, od11, .func (PySem.W.fnOf "law" "law" (defArgs sLaw) (defBody sLaw) (defScope sLaw) .none kV11 dc11 pm11 an11 cd11 ct11), sl11⟩)
    (c11 : PySem.W.codeIn K cd11 "law" = true)
    (k11 : PySem.W.keepIn K (.ref f11) = true)
    (z_len : PySem.W.nsIn K mainGlobals "len" = some none)
    (z_range : PySem.W.nsIn K mainGlobals "range" = some none)
    (z_bint : PySem.W.nsIn K mainGlobals "int" = some none)
    (z_blist : PySem.W.nsIn K mainGlobals "list" = some none)
    (z_repr : PySem.W.nsIn K mainGlobals "repr" = some none)
    (z_btuple : PySem.W.nsIn K mainGlobals "tuple" = some none)
    (z_isinstance : PySem.W.nsIn K mainGlobals "isinstance" = some none)
    (z_enumerate : PySem.W.nsIn K mainGlobals "enumerate" = some none)
    (z_any : PySem.W.nsIn K mainGlobals "any" = some none)
    (z_all : PySem.W.nsIn K mainGlobals "all" = some none)
    (z_ord : PySem.W.nsIn K mainGlobals "ord" = some none)
    (y_BLOCK : PySem.W.nsIn K mainGlobals "BLOCK" = some (some (.int 32 t_BLOCK)))
    (y_MARK : PySem.W.nsIn K mainGlobals "MARK" = some (some (.int 83 t_MARK)))
    (y_HEAD : PySem.W.nsIn K mainGlobals "HEAD" = some (some (.int 6 t_HEAD)))
    (y_PIECE : PySem.W.nsIn K mainGlobals "PIECE" = some (some (.int 24 t_PIECE)))
    (y_CHARACTERS : PySem.W.nsIn K mainGlobals "CHARACTERS" = some (some (.str " !\"#$&'()*+,-./0123456789:;<=>?@ABCDEFGHIJKLMNOPQRSTUVWXYZ[\\]^_`abcdefghijklmnopqrstuvwxyz{|}~" t_CHARACTERS))) :
    LawG l w K CX0 4 63 "script" mg fa h := by
  have g : ∀ {x : Str} {v : Value}, PySem.W.nsIn K mainGlobals x = some (some v) → mg x = some v := fun e => PySem.W.mg_of X G e
  have gz : ∀ {x : Str}, PySem.W.nsIn K mainGlobals x = some none → mg x = none := fun e => PySem.W.mg_none_of X G e
  have e := hfa.symm.trans (g a11)
  cases e
  have F1 := fun_mk (st := sDec) l1 c1 k1
  have b1 := F1.binds (ps := ["block"]) fun _ _ _ _ _ _ us hl => match us, hl with | [_], _ => rfl
  have F2 := fun_mk (st := sChOf) l2 c2 k2
  have b2 := F2.binds (ps := ["codes"]) fun _ _ _ _ _ _ us hl => match us, hl with | [_], _ => rfl
  have F3 := fun_mk (st := sCell) l3 c3 k3
  have b3 := F3.binds (ps := ["script", "k"]) fun _ _ _ _ _ _ us hl => match us, hl with | [_, _], _ => rfl
  have F4 := fun_mk (st := sDigits) l4 c4 k4
  have b4 := F4.binds (ps := ["script", "first", "last"]) fun _ _ _ _ _ _ us hl => match us, hl with | [_, _, _], _ => rfl
  have F5 := fun_mk (st := sDraw) l5 c5 k5
  have b5 := F5.binds (ps := ["box", "many"]) fun _ _ _ _ _ _ us hl => match us, hl with | [_, _], _ => rfl
  have F6 := fun_mk (st := sLPieces) l6 c6 k6
  have b6 := F6.binds (ps := ["number", "text"]) fun _ _ _ _ _ _ us hl => match us, hl with | [_, _], _ => rfl
  have F7 := fun_mk (st := sLSigns) l7 c7 k7
  have b7 := F7.binds (ps := ["box", "many"]) fun _ _ _ _ _ _ us hl => match us, hl with | [_, _], _ => rfl
  have F8 := fun_mk (st := sDue) l8 c8 k8
  have b8 := F8.binds (ps := ["block"]) fun _ _ _ _ _ _ us hl => match us, hl with | [_], _ => rfl
  have F9 := fun_mk (st := sReads) l9 c9 k9
  have b9 := F9.binds (ps := ["block"]) fun _ _ _ _ _ _ us hl => match us, hl with | [_], _ => rfl
  have F10 := fun_mk (st := sTorn) l10 c10 k10
  have b10 := F10.binds (ps := ["block"]) fun _ _ _ _ _ _ us hl => match us, hl with | [_], _ => rfl
  have F11 := fun_mk (st := sLaw) l11 c11 k11
  refine ⟨PySem.W.fnOf "law" "law" (defArgs sLaw) (defBody sLaw) (defScope sLaw) .none kV11 dc11 pm11 an11 cd11 ct11, [], spLaw K, fun p hp => ?_, fun p hp => ?_, fun p hp => ?_, fun s u => .of_eq rfl, fun H a ns hl _ hT hS => ?_, fun base _ _ hTB => ?_⟩
  · cases hp
  · cases hp
  · cases hp
  · refine ⟨a, ns, rfl, hS, fun _ => rfl⟩
  ·
    have T : Txt K mg := ⟨gz z_len, gz z_range, gz z_bint, gz z_blist, gz z_repr⟩
    have T3 : Txt3 mg := ⟨gz z_btuple, gz z_isinstance, gz z_enumerate, gz z_any, gz z_all, gz z_ord, ⟨_, g y_BLOCK⟩, ⟨_, g y_MARK⟩, ⟨_, g y_HEAD⟩, ⟨_, g y_PIECE⟩, ⟨_, g y_CHARACTERS⟩⟩
    have oCell := ok_cell (P := l.prog) (w := w) (base := base) F3 T
    have oDraw := ok_draw (P := l.prog) (w := w) (base := base) F5 T
    have oDig := ok_digits F4 T oCell (g a3) k3 b3
    have oCh := ok_chOf (P := l.prog) (w := w) (base := base) F2 T T3
    have oDec := ok_dec F1 T T3 ⟨g a2, k2, b2, oCh⟩
    have oLP := ok_lpieces (P := l.prog) (w := w) (base := base) F6 T T3
    have oLS := ok_lsigns F7 T ⟨g a5, k5, b5, oDraw⟩
    have oDue := ok_due (P := l.prog) (w := w) (base := base) (mg := mg) F8
    have oRead := ok_reads F9 T ⟨g a1, k1, b1, oDec⟩ ⟨g a8, k8, b8, oDue⟩
    have oTorn := ok_torn F10 T ⟨g a1, k1, b1, oDec⟩
    exact ok_law44 F11 T ⟨g a4, k4, b4, oDig⟩ ⟨g a5, k5, b5, oDraw⟩ ⟨g a7, k7, b7, oLS⟩ ⟨g a6, k6, b6, oLP⟩ ⟨g a10, k10, b10, oTorn⟩ ⟨g a9, k9, b9, oRead⟩
end K4

open PySem PySem.W PyProof.Rows
set_option maxRecDepth 100000 in
set_option maxHeartbeats 0 in
theorem PySem.Challenge.cw_sameasnew_k44_any_block_is_read_so_holds : PySem.Challenge.rw_sameasnew_k44_any_block_is_read_so.Holds := by
  w_on; o_law; k_head; (case hw => w_witness2)
  k_fill
  refine GD.walk_ofG (l := PySem.Challenge.rw_sameasnew_k44_any_block_is_read_so) (n := 63) (k := 4) (x := "script") (CX := fun _ => L2.CX0) rfl (by decide) rfl ⟨rfl, by decide, by decide⟩ (fun w h Y => PySem.W.kIn_of Y) ?F (fun _ _ _ _ _ h => h)
  case F =>
    intro w mg fa h Y KX G hmg TB
    refine' K4.end_at KX G hmg TB ?a1 ?l1 ?c1 ?k1 ?a2 ?l2 ?c2 ?k2 ?a3 ?l3 ?c3 ?k3 ?a4 ?l4 ?c4 ?k4 ?a5 ?l5 ?c5 ?k5 ?a6 ?l6 ?c6 ?k6 ?a7 ?l7 ?c7 ?k7 ?a8 ?l8 ?c8 ?k8 ?a9 ?l9 ?c9 ?k9 ?a10 ?l10 ?c10 ?k10 ?a11 ?l11 ?c11 ?k11 ?z_len ?z_range ?z_bint ?z_blist ?z_repr ?z_btuple ?z_isinstance ?z_enumerate ?z_any ?z_all ?z_ord ?y_BLOCK ?y_MARK ?y_HEAD ?y_PIECE ?y_CHARACTERS
    (case a1 => k_is)
    (case l1 => k_is)
    (case c1 => k_is)
    (case k1 => k_is)
    (case a2 => k_is)
    (case l2 => k_is)
    (case c2 => k_is)
    (case k2 => k_is)
    (case a3 => k_is)
    (case l3 => k_is)
    (case c3 => k_is)
    (case k3 => k_is)
    (case a4 => k_is)
    (case l4 => k_is)
    (case c4 => k_is)
    (case k4 => k_is)
    (case a5 => k_is)
    (case l5 => k_is)
    (case c5 => k_is)
    (case k5 => k_is)
    (case a6 => k_is)
    (case l6 => k_is)
    (case c6 => k_is)
    (case k6 => k_is)
    (case a7 => k_is)
    (case l7 => k_is)
    (case c7 => k_is)
    (case k7 => k_is)
    (case a8 => k_is)
    (case l8 => k_is)
    (case c8 => k_is)
    (case k8 => k_is)
    (case a9 => k_is)
    (case l9 => k_is)
    (case c9 => k_is)
    (case k9 => k_is)
    (case a10 => k_is)
    (case l10 => k_is)
    (case c10 => k_is)
    (case k10 => k_is)
    (case a11 => k_is)
    (case l11 => k_is)
    (case c11 => k_is)
    (case k11 => k_is)
    (case z_len => k_is)
    (case z_range => k_is)
    (case z_bint => k_is)
    (case z_blist => k_is)
    (case z_repr => k_is)
    (case z_btuple => k_is)
    (case z_isinstance => k_is)
    (case z_enumerate => k_is)
    (case z_any => k_is)
    (case z_all => k_is)
    (case z_ord => k_is)
    (case y_BLOCK => k_is)
    (case y_MARK => k_is)
    (case y_HEAD => k_is)
    (case y_PIECE => k_is)
    (case y_CHARACTERS => k_is)
