import PyProof.Rows.All
import Wide.All
import OpenK.AllK
import Wide.FinOn
import HandS.ForMost
import HandS.AnyAll
import HandS.EndTab
import PyProof.GenCompD
import HandS.Codes
import KE.KIntText
import HandS.StrMore
import HandS.IsInst
import HandS.RaiseMore
import PySem.Challenge.RW_sameasnew_k01_tokens_of_lines
set_option Elab.async false
set_option linter.all false
set_option maxRecDepth 100000
set_option maxHeartbeats 4000000
/-! My own small layer over HandS: promises of defs that hold where no repr is under way (guards = []), the repr of data, the end with tables. -/
namespace GD
open PySem PySem.Spec PyProof.Rows L2

/-- a promise that is kept where nothing is being shown -/
structure FnG (P : Program) (w : World) (K : PySem.W.Frag) (mg : Str → Option Value) (base : Heap)
    (CX : CXT) (k : Nat) (f : Addr) (fd : FuncData) (ps : List Str) (sp : Sp) : Prop where
  size : ∀ vs H Q E, sp vs H Q E → vs.length = ps.length
  go : ∀ (A : Around) (outer : List Env) (s : Shared) (H : Hp) (args : Args) (us : List Value)
    (vs : List V) (Q : VK) (E : XK), A.guards = some [] → Room k A →
    Env0 P w K mg base A outer s H → BindsTo s fd args (ps.zip us) → Vals vs us → sp vs H Q E →
    codeAny (model P w) A (.call (.ref f) args) (CR CX outer P w H s Q E) s

section
variable {P : Program} {w : World} {K : PySem.W.Frag} {mg : Str → Option Value} {base : Heap}
variable {CX : CXT} {k : Nat} {f : Addr} {fd : FuncData} {ps : List Str} {sp : Sp}
theorem FnG.of (F : FnOk P w K mg base CX k f fd ps sp) : FnG P w K mg base CX k f fd ps sp :=
  ⟨F.len, fun A outer s H args us vs Q E _ => F.run A outer s H args us vs Q E⟩

/-- a def of the text by its body, with what is known of the guards -/
theorem fnG_of {name qual : Str} {params : Arguments} {body : List Stmt} {scope : Scope}
    {dV kV doc pm cdv ct oc : Value} {an od : Option Addr} {osl : Array (Option Value)} {N : List Str}
    (lk : K.lookup f = some ⟨oc, od, .func (PySem.W.fnOf name qual params body scope dV kV doc pm an cdv ct), osl⟩)
    (hcd : PySem.W.codeIn K cdv qual = true) (S : FnScope N ps scope)
    (size : ∀ vs H Q E, sp vs H Q E → vs.length = ps.length)
    (hbody : ∀ (A : Around) (outer : List Env) (s : Shared) (H : Hp) (vs : List V) (Q : VK) (E : XK),
      (A.deeper (envOfC qual scope s.heap.objs.size f cdv)).guards = some [] →
      Room k (A.deeper (envOfC qual scope s.heap.objs.size f cdv)) → sp vs H Q E →
      ∃ t, PSs (cxOf CX P w K mg base N qual scope f cdv A outer s H E) body t ∧
        t { nx := fun _ H' => Q .non H', rt := Q } (start N vs) H) :
    FnG P w K mg base CX (k + 1) f (PySem.W.fnOf name qual params body scope dV kV doc pm an cdv ct) ps sp := by
  refine ⟨size, fun A outer s H args us vs Q E hgd hr z0 hb r hs => ?_⟩
  have hl := size _ _ _ _ hs
  have kx : K.In s.heap := z0.mod.kin.keeps fun b o e => (z0.bs b o e).1
  have nl : s.heap.NoLimit := z0.mod.nolimit.keeps fun b o e => (z0.bs b o e).1
  have kind : ∀ y ∈ ps.zip us, scope.names.lookup y.1 = some .local ∨
      (scope.names.lookup y.1 = some .cell ∧
        ((cellsFrom (s.heap.objs.size + 1) scope.names []).lookup y.1).isSome = true) := by
    rintro ⟨n, v⟩ hy
    rcases S.par n (List.of_mem_zip hy).1 with q | q
    · exact .inl q
    · exact .inr ⟨q, PySem.W.cellsFrom_some _ _ _ (.inl q)⟩
  refine codeAny_call_function hr.depth (kx _ _ lk) rfl S.co S.gen rfl (PySem.W.codeRec_of kx hcd) (hb _ _ _ _ ?_)
  refine wpAny_newFunctionEnv_cells S.kind kind fun env he s1 x => ?_
  subst he
  refine ⟨nl.keeps x.toInCall.keep, codeAny_func ?_⟩
  obtain ⟨t, ht, hq⟩ := hbody A outer s H vs Q E hgd (hr.deeper _) hs
  have J := inv_start (CX := CX) (E := E) (qual := qual) (f := f) (cd := cdv) S hr.hd z0 hl r x
  refine wpAny_mono (ht.run [] s1 (start N vs) H _ J hq) (fun fl s' hs' => ?_) fun e s' hs' => hs'
  cases fl with
  | ret u =>
    obtain ⟨v, σ2, H2, I2, rv, q⟩ := hs'
    exact ⟨v, H2, I2.os, I2.bare, I2.base, I2.hok, rv, q⟩
  | next =>
    obtain ⟨σ2, H2, I2, q⟩ := hs'
    exact ⟨V.non, H2, I2.os, I2.bare, I2.base, I2.hok, rfl, q⟩
  | brk =>
    obtain ⟨_, _, _, q⟩ := hs'
    exact q.elim
  | cont =>
    obtain ⟨_, _, _, q⟩ := hs'
    exact q.elim

theorem okG {x qual : Str} {st : Stmt} {N : List Str} (F : Fun K x qual st f fd) (S : FnScope N ps (defScope st))
    (size : ∀ vs H Q E, sp vs H Q E → vs.length = ps.length)
    (hbody : ∀ (cdv : Value) (A : Around) (outer : List Env) (s : Shared) (H : Hp) (vs : List V) (Q : VK) (E : XK),
      (A.deeper (envOfC qual (defScope st) s.heap.objs.size f cdv)).guards = some [] →
      Room k (A.deeper (envOfC qual (defScope st) s.heap.objs.size f cdv)) → sp vs H Q E →
      ∃ t, PSs (cxOf CX0 P w K mg base N qual (defScope st) f cdv A outer s H E).nox (defBody st) t ∧
        t { nx := fun _ H' => Q .non H', rt := Q } (start N vs) H) :
    FnG P w K mg base CX0 (k + 1) f fd ps sp := by
  obtain ⟨oc, od, kV, doc, pm, an, cdv, ct, osl, rfl, lk, hcd⟩ := F.ex
  refine fnG_of lk hcd S size fun A outer s H vs Q E hgd hr hs => ?_
  obtain ⟨t, h, q⟩ := hbody cdv A outer s H vs Q E hgd hr hs
  exact ⟨t, h.nox, q⟩

/-- a def of the text, where its code object is asked for: k is what stands of it in the written part -/
theorem okC {x qual : Str} {st : Stmt} {N : List Str} {oc : Value} {od an : Option Addr} {osl : Array (Option Value)} {kV doc pm cdv ct : Value}
    (lk : K.lookup f = some ⟨oc, od, .func (PySem.W.fnOf x qual (defArgs st) (defBody st) (defScope st) .none kV doc pm an cdv ct), osl⟩)
    (hcd : PySem.W.codeIn K cdv qual = true) (S : FnScope N ps (defScope st))
    (size : ∀ vs H Q E, sp vs H Q E → vs.length = ps.length)
    (hbody : ∀ (A : Around) (outer : List Env) (s : Shared) (H : Hp) (vs : List V) (Q : VK) (E : XK),
      Room k (A.deeper (envOfC qual (defScope st) s.heap.objs.size f cdv)) → sp vs H Q E →
      ∃ t, PSs (cxOf CX0 P w K mg base N qual (defScope st) f cdv A outer s H E).nox (defBody st) t ∧
        t { nx := fun _ H' => Q .non H', rt := Q } (start N vs) H) :
    FnOk P w K mg base CX0 (k + 1) f (PySem.W.fnOf x qual (defArgs st) (defBody st) (defScope st) .none kV doc pm an cdv ct) ps sp := by
  refine fn_of lk hcd S size fun A outer s H vs Q E hr hs => ?_
  obtain ⟨t, h, q⟩ := hbody A outer s H vs Q E hr hs
  exact ⟨t, h.nox, q⟩
end

section
variable {X : Cx} {CX : CXT} {k : Nat} {f : Addr} {fd : FuncData} {ps : List Str} {sp : Sp} {dvs : List V}
variable {ds : List Value} {E : XK} {x : Str} {p pos : Pos} {e : Expr} {es : List Expr} {t : TA}
/-- a call of such a def -/
theorem pe_callG (F : FnG X.prog X.w X.K X.mg X.base CX k f fd ps sp) (hgd : X.A.guards = some []) (hr : Room k X.A) (hg : Gl X x)
    (hm : X.mg x = some (.ref f)) (hk : PySem.W.keepIn X.K (.ref f) = true) (hb : Binds X.K fd ps ds) (hd : Vals dvs ds) (hx : Passes CX X E)
    (ha : PA X (e :: es) t) (hdb : (x == ("__debug__" : Str)) = false := by decide)
    (he : starEach (e :: es) X.env = (false, eval e X.env) :: starEach es X.env := by rfl)
    (hpl : (backTo pos (starEach es X.env)).any (·.1) = false := by rfl) :
    PE X (.Call (.Name x p) (e :: es) [] pos) (tCall sp dvs E t) := by
  refine ⟨fun pins s σ H Q I h => wpAny_Call_Name_kw (ld_glob I hg hm ?_ hdb)⟩
  refine PySem.W.callWith_K (h₀ := X.base) I.ok.mod.kin hk (thn (ha.run pos pins s σ H _ I h) fun us s1 hh => ?_) he hpl
  obtain ⟨vs, H1, I1, r, q⟩ := hh
  refine ⟨I1.kIn, ?_⟩
  have r2 : Vals (vs ++ dvs) (us ++ ds) := r.append hd
  have hl : (us ++ ds).length = ps.length := by
    rw [← r2.length]
    exact F.size _ _ _ _ q
  refine wpAny_call (codeAny_mono (F.go X.A X.stack s1 H1 ⟨us, []⟩ (us ++ ds) (vs ++ dvs) Q E hgd hr I1.env0 (hb s1 us I1.kIn hl) r2 q) fun r s' hq => ?_)
  cases r with
  | error e => exact hx pins σ H1 s1 e s' I1 hq
  | ok fl =>
    cases fl with
    | ret u => exact I1.after hq
    | next => exact hq.elim
    | brk => exact hq.elim
    | cont => exact hq.elim

/-! ### repr of data -/
/-- repr(x) of none-free data: what it shows -/
theorem cr_repr (hgd : X.A.guards = some []) (hu : X.A.units + 64 < cLine) : CallR X (.builtin "repr") (fun xs H Q => ∃ (v : V) (d : PyData), xs = [v] ∧ Dp X.K H v d ∧ d ≠ .none ∧
    d.showable = true ∧ d.hasDict = false ∧ d.depth ≤ 60 ∧ d.shown.length ≤ sizeLine ∧ Q (.str d.shown) H) := by
  intro pins s σ H xs us Q I r h
  obtain ⟨v, d, rfl, hd, hnn, hs, hn, hdp, hz, q⟩ := h
  obtain ⟨u, rfl, ru⟩ := vals1 r
  have fin : ∀ tk, EP X pins σ Q (.str d.shown tk) s := fun tk => ⟨.str _, H, I, ⟨_, rfl⟩, q⟩
  cases hd with
  | non => exact absurd rfl hnn
  | bl b =>
    obtain rfl : u = Value.bool b := ru
    refine PySem.P.repr_of_bool ?_
    have e : (PyData.bool b).shown = (if b then ("True" : Str) else "False") := by
      simp only [PyData.shown]
    rw [e] at q
    cases b
    · exact ⟨.str _, H, I.tok _, ⟨_, rfl⟩, q⟩
    · exact ⟨.str _, H, I.tok _, ⟨_, rfl⟩, q⟩
  | int i =>
    obtain ⟨t, rfl⟩ := ru
    refine PySem.P.repr_of_int ?_ ⟨.str _, H, I.tok _, ⟨_, rfl⟩, ?_⟩
    · simpa only [PyData.showable, decide_eq_true_eq] using hs
    · simpa only [PyData.shown] using q
  | str a =>
    obtain ⟨t, rfl⟩ := ru
    refine PySem.P.repr_of_str ⟨.str _, H, I.tok _, ⟨_, rfl⟩, ?_⟩ ?_
    · simpa only [PyData.shown] using q
    · simpa only [PyData.shown] using hz
  | lst hs' ha' =>
    obtain rfl : u = Value.ref _ := ru
    obtain ⟨as, rr⟩ := Dp.reads I _ _ _ (Dp.lst hs' ha') rfl
    exact repr_of_reads' rr hs (PyData.noDict_hsm hn) hgd (by omega) (fun _ _ e => e)
      (fun h' u tk hk => ⟨.str _, H, I.kept hk, ⟨_, rfl⟩, q⟩) hz
  | tup hs' ha' =>
    obtain rfl : u = Value.ref _ := ru
    obtain ⟨as, rr⟩ := Dp.reads I _ _ _ (Dp.tup hs' ha') rfl
    exact repr_of_reads' rr hs (PyData.noDict_hsm hn) hgd (by omega) (fun _ _ e => e)
      (fun h' u tk hk => ⟨.str _, H, I.kept hk, ⟨_, rfl⟩, q⟩) hz
end
end GD

set_option maxRecDepth 100000
set_option maxHeartbeats 4000000
namespace GD
open PySem PySem.Spec PyProof.Rows L2

/-- an empty table of a code object -/
abbrev tb0 : Obj := { cls := .none, data := .fields #[] }
/-- the script as it is laid -/
abbrev so (vs : List Value) : Obj := { cls := .type "list", data := .seq vs.toArray }
/-- at the entry: the tables at T, and the script unless it belongs to the written part -/
def atEntry (K : PySem.W.Frag) (T : List Addr) (a : Addr) (vs : List Value) (ns : List Int) : Hp := fun b =>
  if b ∈ T then some (.tbl #[]) else if b = a ∧ K.lookup a = none then some (.frz (so vs) (.lst (ns.map V.int))) else none

section
variable {P : Program} {w : World} {K : PySem.W.Frag} {mg mb : Str → Option Value} {CX : CXT} {k : Nat} {fa a : Addr}
variable {cs : List (Addr × Addr)} {fd : FuncData} {x : Str} {sp : Sp} {s₁ : Shared} {vs : List Value} {ns : List Int}
theorem entry_call (kx : K.In s₁.heap) (hns : s₁.heap.Ns mainGlobals mg) (hb : s₁.heap.Ns builtinsNs mb)
    (hbb : ∀ x : Str, x ≠ "__name__" → mb x = bootBuiltins x) (hlim : s₁.heap.NoLimit) (hg : s₁.gens = #[])
    (hT : ∀ p ∈ cs, s₁.heap.get? p.2 = some tb0) (nT : ∀ p ∈ cs, K.lookup p.2 = none) (C : ∀ p ∈ cs, PySem.W.CodeHd s₁.heap p.1 p.2)
    (hbm : ∃ (bm : Addr) (ob : Obj), mg "__builtins__" = some (.ref bm) ∧ bm ≠ builtinsNs ∧ s₁.heap.get? bm = some ob ∧
      ob.cls = .type "module" ∧ ob.dict = some builtinsNs ∧ ob.data = .plain)
    (ha : s₁.heap.get? a = some (so vs)) (hi : IntsAre vs ns) (hl : ns.length ≤ sizeLine) (hr : Room k callerA)
    (F : ∀ base : Heap, K.In base → base.Ns mainGlobals mg → (∀ p ∈ cs, GxR.TabB base mg p.1 p.2) → FnG P w K mg base CX k fa fd [x] sp)
    (hbind : ∀ (s : Shared) (u : Value), BindsTo s fd ⟨[u], []⟩ [(x, u)])
    (hsp : ∀ H : Hp, (∀ p ∈ cs, H p.2 = some (.tbl #[])) → SqL K H a (ns.map V.int) → sp [.ref a] H (fun v _ => v = .bl true) fun _ _ _ => False)
    (hCX : ∀ H e s', CX [] H s₁ (fun _ _ _ => False) e s' → False) :
    codeAny (model P w) callerA (.call (.ref fa) ⟨[.ref a], []⟩)
      (fun r s' => r = .ok (.ret (.bool true)) ∧ OldK s₁.heap s'.heap ∧ s'.os = s₁.os ∧ AllBare s'.gens) s₁ := by
  obtain ⟨T, eT⟩ : ∃ T, T = cs.map (·.2) := ⟨_, rfl⟩
  have inT : ∀ p ∈ cs, p.2 ∈ T := fun p hp => eT ▸ List.mem_map.mpr ⟨p, hp, rfl⟩
  have ofT : ∀ b ∈ T, s₁.heap.get? b = some tb0 ∧ K.lookup b = none := fun b hb => by
    rw [eT] at hb
    obtain ⟨p, hp, rfl⟩ := List.mem_map.mp hb
    exact ⟨hT p hp, nT p hp⟩
  have aT : a ∉ T := fun z => by
    have q := (ofT a z).1
    rw [ha] at q
    cases (congrArg Obj.data (Option.some.inj q) : Data.seq vs.toArray _ = Data.fields #[])
  have rv : Vals (ns.map V.int) vs := vals_ints hi
  obtain ⟨H, eH⟩ : ∃ H, H = atEntry K T a vs ns := ⟨_, rfl⟩
  have hTb : ∀ b ∈ T, H b = some (.tbl #[]) := fun b hb => by rw [eH]; exact if_pos hb
  have hAb : K.lookup a = none → H a = some (.frz (so vs) (.lst (ns.map V.int))) := fun z => by
    rw [eH]
    exact (if_neg aT).trans (if_pos ⟨rfl, z⟩)
  have hOt : ∀ b, b ∉ T → ¬(b = a ∧ K.lookup a = none) → H b = none := fun b h1 h2 => by
    rw [eH]
    exact (if_neg h1).trans (if_neg h2)
  have cases3 : ∀ b, (b ∈ T ∧ H b = some (.tbl #[])) ∨ ((b = a ∧ K.lookup a = none) ∧ H b = some (.frz (so vs) (.lst (ns.map V.int)))) ∨ (b ∉ T ∧ H b = none) := fun b => by
    by_cases h1 : b ∈ T
    · exact .inl ⟨h1, hTb b h1⟩
    · by_cases h2 : b = a ∧ K.lookup a = none
      · exact .inr (.inl ⟨h2, by rw [h2.1]; exact hAb h2.2⟩)
      · exact .inr (.inr ⟨h1, hOt b h1 h2⟩)
  have hok : HOk P w H s₁.heap := fun b u e => by
    rcases cases3 b with ⟨h1, h2⟩ | ⟨⟨rfl, h1⟩, h2⟩ | ⟨_, h2⟩
    · rw [h2] at e
      cases e
      exact (ofT b h1).1
    · rw [h2] at e
      cases e
      exact ⟨ha, by rw [List.length_map]; exact hl, vs, _, rv, ha⟩
    · rw [h2] at e
      cases e
  have hS : SqL K H a (ns.map V.int) := by
    cases hk : K.lookup a with
    | none => exact .inl (.inr ⟨so vs, hAb hk⟩)
    | some o =>
      have e := kx a o hk
      rw [ha] at e
      cases e
      exact .inr ⟨_, vs.toArray, _, hk, rfl, rfl, rfl, by rw [List.size_toArray, hi.length]; exact hl, by simpa using rv⟩
  -- what is neither a sequence nor an empty table is not tracked
  have plain : ∀ {b : Addr} {o : Obj}, s₁.heap.get? b = some o → (∀ us n, o.data ≠ .seq us n) → o.data ≠ .fields #[] → H b = none := fun {b o} e h1 h2 => by
    rcases cases3 b with ⟨q, _⟩ | ⟨⟨rfl, _⟩, _⟩ | ⟨_, q⟩
    · have q := (ofT b q).1
      rw [e] at q
      cases q
      exact (h2 rfl).elim
    · rw [ha] at e
      cases e
      exact (h1 _ _ rfl).elim
    · exact q
  have stay : ∀ {b : Addr} {o : Obj}, s₁.heap.get? b = some o → H b = none → (hidT s₁.heap H).get? b = some o := fun e n => hidT_get e n
  have nsB : ∀ {b : Addr} {m : Str → Option Value}, s₁.heap.Ns b m → (hidT s₁.heap H).Ns b m := fun {b m} ⟨o, es, ep, e, d, r⟩ =>
    ⟨o, es, ep, stay e (plain e (fun us n z => by rw [d] at z; cases z) fun z => by rw [d] at z; cases z), d, r⟩
  have kB : K.In (hidT s₁.heap H) := fun b o e => stay (kx b o e) (by
    rcases cases3 b with ⟨q, _⟩ | ⟨⟨rfl, q⟩, _⟩ | ⟨_, q⟩
    · rw [(ofT b q).2] at e
      cases e
    · rw [q] at e
      cases e
    · exact q)
  have mB : L2.Mod K mg (hidT s₁.heap H) := ⟨kB, nsB hns, ⟨mb, nsB hb, hbb⟩, let ⟨mc, h1, h2⟩ := hlim; ⟨mc, nsB h1, h2⟩⟩
  have notNs : ∀ b o, s₁.heap.get? b = some o → (∃ us, o.data = .fields us) ∨ o.data = .plain → mainGlobals ≠ b := fun b o e h z => by
    obtain ⟨o2, es, ep, e2, d, _⟩ := hns
    rw [z, e] at e2
    cases e2
    rcases h with ⟨us, h⟩ | h
    · rw [h] at d
      cases d
    · rw [h] at d
      cases d
  have tB : ∀ p ∈ cs, GxR.TabB (hidT s₁.heap H) mg p.1 p.2 := fun p hp => by
    have hp0 := hT p hp
    refine ⟨?_, ?_, notNs p.2 _ hp0 (.inl ⟨_, rfl⟩)⟩
    · obtain ⟨o, us, file, tf, flags, tg, inF, text, tt, e1, r1, r2, r3, rest⟩ := C p hp
      refine ⟨o, us, file, tf, flags, tg, inF, text, tt, stay e1 (plain e1 (fun vs n z => ?_) fun z => ?_), r1, r2, r3, rest⟩
      · rw [r2] at z
        cases z
      · rw [r2] at z
        cases z
        simp at r3
    · obtain ⟨bm, ob, b1, b2, b3, b4, b5, b6⟩ := hbm
      refine ⟨bm, ob, b1, b2, (notNs bm ob b3 (.inr b6)).symm, fun z => ?_, stay b3 (plain b3 (fun vs n z => ?_) fun z => ?_), b4, b5, b6⟩
      · rw [z, hp0] at b3
        cases b3
        cases b6
      · rw [b6] at z
        cases z
      · rw [b6] at z
        cases z
  have z0 : Env0 P w K mg (hidT s₁.heap H) callerA [] s₁ H :=
    ⟨rfl, mB, fun b o e => of_hidT e, Nat.le_of_eq (hidT_size _ _), trivial, (fun b hb => by cases hb), hok, .of_eq hg⟩
  refine codeAny_mono ((F _ kB (nsB hns) tB).go callerA [] s₁ H ⟨[.ref a], []⟩ [.ref a] [.ref a] _ _ rfl hr z0 (hbind s₁ (.ref a))
    (.cons rfl .nil) (hsp H (fun p hp => hTb p.2 (inT p hp)) hS)) fun r s' h => ?_
  cases r with
  | error e => exact (hCX H e s' h).elim
  | ok fl =>
    cases fl with
    | next => exact h.elim
    | brk => exact h.elim
    | cont => exact h.elim
    | ret u =>
      obtain ⟨v, H', os, bare, un, hok', r', q⟩ := h
      obtain rfl : v = .bl true := q
      obtain rfl : u = Value.bool true := r'
      have same : ∀ b o, b ∉ T → s₁.heap.get? b = some o → s'.heap.get? b = some o := fun b o nb e => by
        rcases cases3 b with ⟨q, _⟩ | ⟨_, q⟩ | ⟨_, q⟩
        · exact absurd q nb
        · obtain ⟨e1, _⟩ := hok b _ q
          obtain ⟨e2, _⟩ := hok' b _ (un.frzs b _ _ q)
          rw [e] at e1
          cases e1
          exact e2
        · exact un.keep b o e q (fun z => by cases z) (by simp)
      have grown : ∀ p ∈ cs, ∃ more : Array Value, s'.heap.get? p.2 = some { cls := .none, data := .fields more } := fun p hp => by
        obtain ⟨more, z⟩ := un.tbls p.2 #[] (hTb p.2 (inT p hp))
        exact ⟨_, hok' p.2 _ z⟩
      refine ⟨rfl, ⟨fun b o e => ?_, fun b o e => ?_⟩, os, bare⟩
      · by_cases hb : b ∈ T
        · rw [eT] at hb
          obtain ⟨p, hp, rfl⟩ := List.mem_map.mp hb
          obtain ⟨more, hm⟩ := grown p hp
          rw [hT p hp] at e
          cases e
          exact .inr (.inl ⟨((C p hp).tab (hT p hp)).isCodeTable, rfl, #[], more, rfl, by rw [Array.empty_append]; exact hm⟩)
        · exact .inl (same b o hb e)
      · by_cases hb : b ∈ T
        · rw [eT] at hb
          obtain ⟨p, hp, rfl⟩ := List.mem_map.mp hb
          obtain ⟨more, hm⟩ := grown p hp
          exact ⟨_, hm⟩
        · exact ⟨o, same b o hb e⟩
end

/-- the table of the top's def dn: its code object c, the table P -/
def TabsAt (q : Program) (K : PySem.W.Frag) (mg : Str → Option Value) (h : Heap) : Prop :=
  ∀ (dn : Str) (f c P : Addr) (o : Obj) (fd : FuncData) (e : Value) (dd : Option Addr) (us : Array Value) (sl : Array (Option Value)),
    ((recsOf q).any fun r => r.name == dn) = true → mg dn = some (.ref f) → K.lookup f = some o → o.data = .func fd → fd.code = .ref c →
    K.lookup c = some ⟨e, dd, .fields us, sl⟩ → us[11]? = some (.ref P) → h.get? P = some tb0 ∧ PySem.W.CodeHd h c P

/-- what is to be shown of the law's def at the head's heap h -/
def LawG (l : PySem.W.OpenLaw) (w : World) (K : PySem.W.Frag) (CX : CXT) (k n : Nat) (x : Str) (mg : Str → Option Value) (fa : Addr) (h : Heap) : Prop :=
  ∃ (fd : FuncData) (cs : List (Addr × Addr)) (sp : Sp), (∀ p ∈ cs, h.get? p.2 = some tb0) ∧ (∀ p ∈ cs, K.lookup p.2 = none) ∧
    (∀ p ∈ cs, PySem.W.CodeHd h p.1 p.2) ∧ (∀ (s : Shared) (u : Value), BindsTo s fd ⟨[u], []⟩ [(x, u)]) ∧
    (∀ (H : Hp) (a : Addr) (ns : List Int), ns.length ≤ n → (∀ z ∈ ns, Builtin.Int.intBits z ≤ 1048576) → (∀ p ∈ cs, H p.2 = some (.tbl #[])) →
      SqL K H a (ns.map V.int) → sp [.ref a] H (fun v _ => v = .bl true) fun _ _ _ => False) ∧
    ∀ base : Heap, K.In base → base.Ns mainGlobals mg → (∀ p ∈ cs, GxR.TabB base mg p.1 p.2) → FnG l.prog w K mg base CX k fa fd [x] sp

theorem walk_ofG {l : PySem.W.OpenLaw} {n k : Nat} {q : Program} {loose : List Str} {XP : (Str → Option Value) → Heap → Prop}
    {YP : World → Heap → Prop} {d : DefRec} {K : Params → PySem.W.Frag} {CX : World → CXT} {x : Str}
    (hn : l.most = some n) (hn2 : n ≤ sizeLine) (hdf : d.params.defaults = []) (hr : Room k callerA)
    (hY : ∀ (w : World) (h : Heap), YP w h → (K w.params).In h)
    (F : ∀ (w : World) (mg : Str → Option Value) (fa : Addr) (h : Heap), YP w h → (K w.params).In h → h.Ns mainGlobals mg →
      mg d.name = some (.ref fa) → TabsAt q (K w.params) mg h → LawG l w (K w.params) (CX w) k n x mg fa h)
    (hCX : ∀ (w : World) (H : Hp) (s : Shared) (e : Value) (s' : Shared), CX w [] H s (fun _ _ _ => False) e s' → False) :
    PySem.W.WalkO q loose XP YP l.row.toRowW d [] (fun f vs => PySem.call f vs) := by
  refine Att.attach_callB hn hdf fun w s₀ s₁ mg mb fa o pm cd doc a vs ns G Y ho hd hcd hmg hobj hints hlen hbits hg => ?_
  have kx := hY w _ Y
  have tabs : TabsAt q (K w.params) mg s₁.heap := fun dn f c P o fd e dd us sl h1 h2 h3 h4 h5 h6 h7 => by
    obtain ⟨r, hr1, hr2⟩ := List.any_eq_true.mp h1
    obtain rfl : r.name = dn := beq_iff_eq.mp hr2
    obtain ⟨a', o', fd', c', P', g1, g2, g3, g4, g5, g6⟩ := G.T.tab r hr1
    rw [h2] at g1
    cases g1
    have z1 := kx _ _ h3
    rw [z1] at g2
    cases g2
    rw [h4] at g3
    cases g3
    rw [h5] at g4
    cases g4
    have hd := PySem.W.CodeHd.of g5 g6
    obtain ⟨⟨oc, vc, e1, _, e3, e4⟩, hP⟩ := g6
    have z2 := kx _ _ h6
    rw [z2] at e1
    cases e1
    cases e3
    rw [h7] at e4
    cases e4
    exact ⟨hP, hd⟩
  obtain ⟨fd, cs, sp, hT, nT, C, hb, hsp, hF⟩ := F w mg fa _ Y kx G.T.g hmg tabs
  exact entry_call kx G.T.g G.T.b G.T.builtins G.T.nolimit hg hT nT C G.T.bmain hobj hints (Nat.le_trans hlen hn2) hr hF hb
    (fun H hH hS => hsp H a ns hlen hbits hH hS) fun H e s' => hCX w H s₁ e s'
end GD

set_option maxRecDepth 100000
set_option maxHeartbeats 4000000
namespace GD
open PySem PySem.Spec PyProof.Rows L2

/-- the element of a generator over the signs of a text, where it may call a def of the module: a test of the sign c -/
def EltD (X : Cx) (scope : Scope) (x : Str) (elt : Expr) (pb : Nat → Bool) : Prop :=
  ∀ (cenv : Env) (A' : Around) (E' : Value → Shared → Prop) (c : Nat) (t : Tok) (s₂ : Shared) (m₂ : Str → Option Value),
    cenv.scope = scope → cenv.globals = X.env.globals → A'.handled = none → A'.depth ≤ X.A.depth + 1 → A'.units ≤ X.A.units + 8 →
    (∀ b o, X.base.get? b = some o → s₂.heap.get? b = some o) → s₂.heap.Ns cenv.locals m₂ → m₂ x = some (.str ⟨#[c]⟩ t) →
    wpAny (model X.prog X.w) A' (eval elt cenv) (fun y s₃ => y = .bool (pb c) ∧ Keeps s₂ s₃) E' s₂

section
variable {X : Cx} {pins : List (Addr × Obj)} {σ : L2.St} {H : Hp} {s : Shared}
theorem gen_signs {c P : Addr} {elt iter : Expr} {x : Str} {px gpos : Pos} {scope : Scope} {pb : Nat → Bool} {te : TE} {k : Nat}
    {Q' : Value → Shared → Prop} {R : Str → Hp → Prop} (hr : Room k X.A) (TB : GxR.TabB X.base X.mg c P) (hcode : X.env.code = .ref c)
    (S : GxR.GenS X.env scope x) (hi : PE X iter te) (hel : L2.Mod X.K X.mg X.base → EltD X scope x elt pb) (hs : ∀ v, genFold iter X.env v = pure v) (I : Inv X pins σ H s)
    (h : te σ H fun v H1 => ∃ a : Str, v = .str a ∧ GxR.TabG H1 P ∧ R a H1)
    (hQ : ∀ a H1 g s5, R a H1 → GxR.Ready X pins σ H1 P a pb g s5 → Q' (.ref g) s5) :
    wpAny (model X.prog X.w) X.A (eval (.GeneratorExp elt [⟨.Name x px, iter, [], 0⟩] scope gpos) X.env) Q' X.xe s := by
  refine wpAny_GeneratorExp_walksQD hr.hd S.co (closure_ok S.free) S.cell S.dot S.loc S.kind (by have := hr.dp; omega) ?_ hs
  refine thn (hi.run pins s σ H _ I h) fun xv s1 hv => ?_
  obtain ⟨v, H1, I1, r1, a, rfl, ⟨ps, hP, ht⟩, q1⟩ := hv
  obtain ⟨t, rfl⟩ := _root_.id r1
  refine wpAny_pyIter_str fun o St W hst => ?_
  have hP1 : s1.heap.get? P = some { cls := .none, data := .fields ps } := I1.hok P _ hP
  have ltP : P < s1.heap.objs.size := Heap.lt_size hP1
  have up : ∀ b u, s1.heap.get? b = some u → (s1.heap.push o).get? b = some u := fun b u e => Heap.get?_push_of_some _ e
  have cd : PySem.W.CodeHd (s1.heap.push o) c P := TB.code.keeps fun b u e => up b u (I1.bk b u e)
  have nl2 : (s1.heap.push o).NoLimit := I1.nolimit.push o
  have sz2 : (s1.heap.push o).objs.size = s1.heap.objs.size + 1 := Heap.size_push ..
  have rest : ∀ (code : Value) (h3 : Heap) (tk : Nat) (qs : Array Value), Heap.ExtBut P (s1.heap.push o) h3 → (s1.heap.push o).objs.size ≤ h3.objs.size →
      h3.get? P = some { cls := .none, data := .fields qs } → (∃ more, qs = ps ++ more) → TriplesOk qs.toList →
      wpAny (model X.prog X.w) X.A (builtinsFor X.env.globals X.env.builtins) (fun bi s₄ =>
        ∃ Ia fp wr n₀ Pf St₀ pz F, Value.ref s1.heap.objs.size = .ref Ia ∧ (∀ A' : Around, A'.handled = none → Walks X.prog X.w A' Ia fp wr n₀ Pf St₀) ∧
          St₀ 0 s₄.heap ∧ (∀ b ∈ fp, b < s₄.heap.objs.size) ∧ s₄.heap.NoLimit ∧ cStatics ∉ wr ∧
          (∀ href : Heap, (∀ b o, s₄.heap.get? b = some o → href.get? b = some o) →
            QuietGenD X.prog X.w (genEnv scope (cloFrom X.env.cells scope.names []) s₄.heap.objs.size code bi X.env) x [] elt
              (List.range s₄.heap.objs.size) wr Pf pz F href (X.A.depth + 1) (X.A.units + 8)) ∧
          (∀ a h₅ tk gs, gs.bare = true → s₄.heap.objs.size < a → h₅.objs.size = a + 1 → (∀ b o, s₄.heap.get? b = some o → h₅.get? b = some o) →
            WalksS X.prog X.w X.A.in4 a (a :: s₄.heap.objs.size :: List.range s₄.heap.objs.size) (s₄.heap.objs.size :: wr) (GenOnlyQ s₄.gens.size)
              (passing pz n₀ 0).length (fun j y => ∃ i, (passing pz n₀ 0)[j]? = some i ∧ F i y)
              (GenAt X.prog X.w X.A.in4 a s₄.gens.size s₄.heap.objs.size (List.range s₄.heap.objs.size) wr pz n₀ F) →
            GenAt X.prog X.w X.A.in4 a s₄.gens.size s₄.heap.objs.size (List.range s₄.heap.objs.size) wr pz n₀ F 0 { s₄ with gens := s₄.gens.push gs, toks := tk, heap := h₅ } →
            Q' (.ref a) { s₄ with gens := s₄.gens.push gs, toks := tk, heap := h₅ })) X.xe { s1 with heap := h3, toks := tk } := by
    intro code h3 tk qs hx hsz hP3 hmore ht3
    obtain ⟨bm, ob, e1, e2, e3, e4, e5, e6, e7, e8⟩ := TB.bm
    have hcl : cStatics < s1.heap.objs.size := let ⟨_, hns, _⟩ := I1.nolimit; hns.lt
    have hcP : cStatics ≠ P := fun e => by
      obtain ⟨_, ⟨o', es, ep, ho, hd, _⟩, _⟩ := I1.nolimit
      rw [e, hP1] at ho
      cases ho
      cases hd
    have k3 : ∀ b u, b ≠ P → s1.heap.get? b = some u → h3.get? b = some u := fun b u hb e => hx b u hb (up b u e)
    have kbase : ∀ b u, X.base.get? b = some u → h3.get? b = some u := fun b u e => k3 b u (fun z => by
      have q := (I1.bs b u e).2
      rw [z, hP] at q
      cases q) (I1.bk b u e)
    refine wpAny_builtinsFor (m := X.mg) (by rw [I1.ok.glob]; exact ((I1.mod.glob.keeps I1.bk).push o).extBut hx TB.gP) e1 e2 (k3 _ _ e4 (I1.bk _ _ e5)) e6 e7 e8 ?_
    refine ⟨s1.heap.objs.size, [s1.heap.objs.size], [s1.heap.objs.size], a.cps.size, SignAt a, St, (fun _ => true), (fun i y => ∃ cc, a.cps[i]? = some cc ∧ y = .bool (pb cc)), rfl, W, ?_, ?_, nl2.extBut hx hcP, ?_, ?_, ?_⟩
    · refine (W X.A hr.hd).frame _ _ _ hst fun b hb u e => hx b u (fun z => ?_) e
      obtain rfl : b = s1.heap.objs.size := by simpa using hb
      exact Nat.ne_of_lt ltP z.symm
    · intro b hb
      obtain rfl : b = s1.heap.objs.size := by simpa using hb
      show s1.heap.objs.size < h3.objs.size
      omega
    · intro z
      obtain z : cStatics = s1.heap.objs.size := by simpa using z
      exact Nat.ne_of_lt hcl z
    · intro href hhref
      refine ⟨fun A' E' i v s₂ m₂ hA hD hU hPv hn hm hk => ?_, fun A' E' i v s₂ m₂ hA hD hU hPv hp hn hm hk => ?_⟩
      · simp only [List.forIn_nil]
        exact wpAny_pure ⟨rfl, GxR.keeps_refl _⟩
      · obtain ⟨cc, u, hcc, rfl⟩ := hPv
        have kb : ∀ b o, X.base.get? b = some o → s₂.heap.get? b = some o := fun b o e =>
          hk b (List.mem_range.mpr (Heap.lt_size (kbase b o e))) (fun z => by
            obtain z : b = s1.heap.objs.size := by simpa using z
            exact Nat.ne_of_lt (Heap.lt_size (I1.bk b o e)) z) o (hhref b o (kbase b o e))
        exact wpAny_mono (hel I1.ok.mod _ A' E' cc u s₂ m₂ rfl rfl hA hD hU kb hn hm) (fun y s3 r => ⟨⟨cc, hcc, r.1⟩, r.2⟩) fun _ _ e => e
    · intro g h5 tk5 gs hgb hag hsz5 hk5 W5 hat
      simp only [GxR.passing_true, List.length_range] at W5
      refine hQ a H1 g _ q1 ⟨_, _, _, _, _, W5.in4_1, hat, fun j y sj Qj Ej hy hQj => ?_, fun s' hm => ?_⟩
      · obtain ⟨i, hij, cc, hcc, rfl⟩ := hy
        obtain ⟨hj, ej⟩ := List.getElem?_eq_some_iff.mp hij
        rw [List.getElem_range] at ej
        subst ej
        have e9 : a.cps.toList[j]? = some cc := by
          rw [Array.getElem?_toList]
          exact hcc
        have q2 : Qj (GxR.trF pb a.cps.toList j) sj := hQj
        rw [GxR.trF_some e9] at q2
        exact wpAny_truthy_bool q2
      · obtain ⟨more, em⟩ := hmore
        have nwr : ∀ b u, s1.heap.get? b = some u → b ∉ h3.objs.size :: [s1.heap.objs.size] := fun b u e hb => by
          have hl := Heap.lt_size e
          rcases List.mem_cons.mp hb with z | z
          · rw [z] at hl
            have h9 : (h3.objs.size : Nat) < s1.heap.objs.size := hl
            omega
          · obtain z : b = s1.heap.objs.size := by simpa using z
            exact Nat.ne_of_lt hl z
        have J := GxR.inv_tab (more := more) (h' := s'.heap) (g' := s'.gens) (d' := s'.drawn) (t' := s'.toks) I1 hP (fun b u hb e => hm.heap b u (nwr b u e) (hk5 b u (k3 b u hb e)))
          (by rw [← em]; exact hm.heap P _ (nwr P _ hP1) (hk5 P _ hP3)) (AllBare.movedS (I1.bare.push hgb) hm)
        rw [GxR.sh_eta s1 s' hm.os] at J
        exact ⟨upd H1 P (.tbl (ps ++ more)), ⟨⟨ps ++ more, upd_same, by rw [← em]; exact ht3⟩, fun b hb => upd_ne hb⟩, J⟩
  refine ⟨nl2, ?_⟩
  have hP2 := up P _ hP1
  cases hf : codeAmong gpos ps.toList with
  | none =>
    refine wpAny_genexprCodeX hcode (cd.code hP2 ht) (cd.tab hP2) hf fun c' h' tk hx hge hlt hco' _ htab' _ => ?_
    obtain ⟨o1, vs, f1, tf, fl, tg, inF, tx, tt, op, _, _, _, _, _, _, _, _, _, htr, _⟩ := hco'
    exact rest _ h' tk _ hx (Nat.le_trans hge (Nat.le_of_lt hlt)) htab'.2 ⟨_, rfl⟩ htr
  | some cv =>
    refine wpAny_genexprCode_hit hcode (cd.code hP2 ht) hf ?_
    exact rest cv (s1.heap.push o) s1.toks ps (Heap.ExtBut.refl _ _) (Nat.le_refl _) hP2 ⟨#[], by simp⟩ ht

/-- all(test for x in e) -/
theorem pe_allD {c P : Addr} {elt iter : Expr} {x : Str} {px p pos gpos : Pos} {scope : Scope} {pb : Nat → Bool} {te : TE} {k : Nat}
    (hr : Room k X.A) (hg : Gl X "all") (hm : X.mg "all" = none) (TB : GxR.TabB X.base X.mg c P) (hcode : X.env.code = .ref c) (S : GxR.GenS X.env scope x)
    (hi : PE X iter te) (hel : L2.Mod X.K X.mg X.base → EltD X scope x elt pb) (hs : ∀ v, genFold iter X.env v = pure v)
    (he : starEach [.GeneratorExp elt [⟨.Name x px, iter, [], 0⟩] scope gpos] X.env = (false, eval (.GeneratorExp elt [⟨.Name x px, iter, [], 0⟩] scope gpos) X.env) :: starEach [] X.env := by rfl) :
    PE X (.Call (.Name "all" p) [.GeneratorExp elt [⟨.Name x px, iter, [], 0⟩] scope gpos] [] pos) (GxR.tAllS P pb te) := by
  refine ⟨fun pins s σ H Q I h => wpAny_Call_Name_kw (ld_blt I hg hm (by decide +kernel : bootBuiltins "all" = some (.builtin "all")) ?_)⟩
  refine PyProof.Rows.callWith_builtin1 ?_ he (by rfl)
  rw [he]
  show wpAny _ _ (spliced ((false, _) :: backTo pos (starEach [] X.env))) _ _ s
  refine Calls.spliced_cons (gen_signs (R := fun a H1 => ∀ H2, GxR.Tabbed P H1 H2 → Q (.bl (a.cps.toList.all pb)) H2) hr TB hcode S hi hel hs I h fun a H1 g s5 hR hG => ?_)
  obtain ⟨fp, wr, G, F, St, W, hst, htr, hI⟩ := hG
  refine Calls.spliced_nil (call_all_walkS (W.self 0 _ _ _ hst ⟨g, fp, wr, G, _, F, St, _, rfl, W, hst, htr, fun s' hmv => ?_⟩))
  obtain ⟨H2, hT, J⟩ := hI s' hmv
  refine ⟨.bl _, H2, J, rfl, ?_⟩
  rw [GxR.all_signs a pb]
  exact hR H2 hT

/-- an element that calls nothing: x in N, N a text of the module -/
theorem elt_inSigns {scope : Scope} {x n : Str} {z : Str} {tz : Tok} {p1 p2 p3 : Pos} (hgl : X.env.globals = mainGlobals) (hmod : L2.Mod X.K X.mg X.base) (hk : scope.kind = .function)
    (hl : scope.names.lookup x = some .local) (hn : scope.names.lookup n = some .globalImplicit) (hm : X.mg n = some (.str z tz))
    (hd : (x == ("__debug__" : Str)) = false := by decide) (hd2 : (n == ("__debug__" : Str)) = false := by decide) :
    EltD X scope x (.Compare (.Name x p1) [.In] [.Name n p2] p3) (fun c => decide (c ∈ z.cps.toList)) := by
  intro cenv A' E' c t s₂ m₂ hs hg hA hD hU hb hns hx
  refine wpAny_Compare1 ?_
  refine wpAny_Name (wpAny_loadName_local (by rw [hs]; exact hk) (show cenv.scope.names.lookup x = some .local by rw [hs]; exact hl) hns hx ?_) hd
  refine Calls.Name_function_global (by rw [hs]; exact hk) (show cenv.scope.names.lookup n = some .globalImplicit by rw [hs]; exact hn) (Calls.loadGlobal_global (by rw [hg, hgl]; exact hmod.glob.keeps hb) hm ?_) hd2
  refine in_str ⟨?_, GxR.keeps_refl _⟩
  rw [PySem.StrLaws.found_one z c]
end
end GD

set_option maxRecDepth 100000
set_option maxHeartbeats 4000000
namespace K1
open PySem PySem.Spec PyProof.Rows L2 GD
/-! ### the text -/
def topS (i : Nat) : Stmt := PySem.Challenge.pw_sameasnew_k01_tokens_of_lines.main.body.getD i (.Pass ⟨0, 0, 0, 0⟩)
abbrev sIsName : Stmt := topS 9
abbrev sIsValue : Stmt := topS 10
abbrev sSplit : Stmt := topS 11
abbrev sTokenAt : Stmt := topS 12
abbrev sWordAt : Stmt := topS 13
abbrev sNumberAt : Stmt := topS 14
abbrev sStringAt : Stmt := topS 15
abbrev sEndOfRun : Stmt := topS 16
abbrev sCell : Stmt := topS 18
abbrev sDigits : Stmt := topS 19
abbrev sDraw : Stmt := topS 20
abbrev sAlike : Stmt := topS 21
abbrev sToken : Stmt := topS 22
abbrev sSpelled : Stmt := topS 23
abbrev sJoined : Stmt := topS 24
abbrev sLaw : Stmt := topS 25

/-- the signs of the package -/
def CHS : Str := " !\"#$&'()*+,-./0123456789:;<=>?@ABCDEFGHIJKLMNOPQRSTUVWXYZ[\\]^_`abcdefghijklmnopqrstuvwxyz{|}~"
def isCh (c : Nat) : Bool := decide (32 ≤ c ∧ c ≤ 126 ∧ c ≠ 37)
theorem chs_le : ∀ x ∈ CHS.cps.toList, x ≤ 126 := by decide +kernel
theorem chs_tab : ∀ c ∈ List.range 127, decide (c ∈ CHS.cps.toList) = isCh c := by decide +kernel
theorem chs_eq (c : Nat) : decide (c ∈ CHS.cps.toList) = isCh c := by
  by_cases h : c < 127
  · exact chs_tab c (List.mem_range.mpr h)
  · rw [decide_eq_false fun z => h (Nat.lt_succ_of_le (chs_le c z))]
    exact (decide_eq_false fun z => h (by omega)).symm
/-- a character that may stand in a string -/
def mayC (c : Nat) : Bool := decide (32 ≤ c ∧ c ≤ 126 ∧ c ≠ 37 ∧ c ≠ 34 ∧ c ≠ 124)
theorem mayC_eq (c : Nat) : mayC c = (isCh c && !(decide (c = 34) || decide (c = 124))) := by
  unfold mayC isCh
  rw [Bool.eq_iff_iff]
  simp only [Bool.and_eq_true, Bool.not_eq_true', Bool.or_eq_false_iff, decide_eq_true_eq, decide_eq_false_iff_not]
  constructor
  · intro h
    exact ⟨⟨h.1, h.2.1, h.2.2.1⟩, h.2.2.2.1, h.2.2.2.2⟩
  · intro h
    exact ⟨h.1.1, h.1.2.1, h.1.2.2, h.2.1, h.2.2⟩
/-- the element of is_value's generator -/
theorem elt_val {X : Cx} {scope : Scope} {tz : Tok} {j1 j2 j3 : Nat} {p0 p1 p2 p3 p4 p5 p6 p7 p8 : Pos} (hgl : X.env.globals = mainGlobals) (hmod : L2.Mod X.K X.mg X.base) (hk : scope.kind = .function)
    (hl : scope.names.lookup ("character" : Str) = some .local) (hn : scope.names.lookup ("CHARACTERS" : Str) = some .globalImplicit) (hm : X.mg "CHARACTERS" = some (.str CHS tz)) :
    EltD X scope "character" (.BoolOp .And [.Compare (.Name "character" p1) [.In] [.Name "CHARACTERS" p2] p3, .Compare (.Name "character" p4) [.NotIn] [.Tuple [.Constant (.str "\"") j1 p5, .Constant (.str "|") j2 p6] j3 p7] p8] p0) mayC := by
  intro cenv A' E' c t s₂ m₂ hs hg hA hD hU hb hns hx
  have k1 : cenv.scope.kind = .function := by rw [hs]; exact hk
  have l1 : cenv.scope.names.lookup ("character" : Str) = some .local := by rw [hs]; exact hl
  refine BoolOp_and (wpAny_Compare1 ?_)
  refine wpAny_Name (wpAny_loadName_local k1 l1 hns hx ?_) (by decide)
  refine Calls.Name_function_global k1 (show cenv.scope.names.lookup _ = some .globalImplicit by rw [hs]; exact hn) (Calls.loadGlobal_global (by rw [hg, hgl]; exact hmod.glob.keeps hb) hm ?_) (by decide)
  refine in_str ?_
  rw [PySem.StrLaws.found_one CHS c, chs_eq c]
  refine wpAny_truthy_bool ?_
  by_cases c1 : isCh c = true
  case neg =>
    have e1 : isCh c = false := by
      cases h : isCh c
      · rfl
      · exact absurd h c1
    rw [e1]
    refine ite_ff ⟨?_, GxR.keeps_refl _⟩
    rw [mayC_eq, e1, Bool.false_and]
  rw [c1]
  refine ite_tt (BoolOp_one (wpAny_Compare1 ?_))
  refine wpAny_Name (wpAny_loadName_local k1 l1 hns hx ?_) (by decide)
  refine wpAny_Tuple_spliced ?_
  show wpAny _ _ (spliced ((false, eval _ cenv) :: backTo _ (starEach [_] cenv))) _ _ _
  refine Calls.spliced_cons (Calls.Constant_str ?_)
  show wpAny _ _ (spliced ((false, eval _ cenv) :: backTo _ (starEach [] cenv))) _ _ _
  refine Calls.spliced_cons (Calls.Constant_str ?_)
  refine Calls.spliced_nil ⟨by show 2 ≤ sizeLine; decide, ?_⟩
  refine SeqAt.notIn_tupleAt (eqU (.str ⟨#[c]⟩)) ⟨_, Heap.get?_push_size _ rfl, rfl, _, rfl⟩ (fun y hy => ?_) ?_
  · have z := List.mem_toArray.mp hy
    rcases List.mem_cons.mp z with rfl | z
    · exact SeqAt.EqAt.str_str _ _ _ _
    · rcases List.mem_cons.mp z with rfl | z
      · exact SeqAt.EqAt.str_str _ _ _ _
      · cases z
  · have q1 : ∀ d : Nat, eqV (.str ⟨#[d]⟩) (.str ⟨#[c]⟩) = decide (c = d) := fun d => by
      show ((⟨#[d]⟩ : Str) == (⟨#[c]⟩ : Str)) = _
      by_cases h : c = d
      · subst h
        rw [decide_eq_true rfl]
        exact beq_self_eq_true _
      · rw [decide_eq_false h]
        refine beq_eq_false_iff_ne.mpr fun z => h ?_
        have z1 : #[d] = #[c] := congrArg Str.cps z
        have z2 : [d] = [c] := congrArg Array.toList z1
        exact (List.cons.inj z2).1.symm
    refine ⟨congrArg Value.bool ?_, ⟨_, _, rfl, fun b o e => Heap.get?_push_of_some _ e⟩⟩
    show (!([Value.str (Str.ofString "\"") _, Value.str (Str.ofString "|") _].toArray.any (eqU (.str ⟨#[c]⟩)))) = mayC c
    rw [show ∀ l : List Value, l.toArray.any (eqU (.str ⟨#[c]⟩)) = l.any (eqU (.str ⟨#[c]⟩)) from fun l => by simp]
    rw [List.any_cons, List.any_cons, List.any_nil, Bool.or_false]
    show (!(eqV (.str ⟨#[34]⟩) (.str ⟨#[c]⟩) || eqV (.str ⟨#[124]⟩) (.str ⟨#[c]⟩))) = mayC c
    rw [q1, q1, mayC_eq, c1, Bool.true_and]
end K1

set_option maxRecDepth 100000
set_option maxHeartbeats 4000000
namespace K1
open PySem PySem.Spec PyProof.Rows L2 GD

def kw13 : List Str := ["import", "export", "let", "keep", "fn", "do", "hold", "if", "then", "else", "set", "from", "as"]
/-- what the top has written, but for the defs -/
structure Txt (K : PySem.W.Frag) (mg : Str → Option Value) : Prop where
  len : mg "len" = none
  range : mg "range" = none
  bint : mg "int" = none
  bstr : mg "str" = none
  bbool : mg "bool" = none
  blist : mg "list" = none
  repr : mg "repr" = none
  isinstance : mg "isinstance" = none
  ord : mg "ord" = none
  all : mg "all" = none
  NAME_MOST : ∃ t, mg "NAME_MOST" = some (.int 6 t)
  NUMBER_MOST : ∃ t, mg "NUMBER_MOST" = some (.int 99999 t)
  STRING_MOST : ∃ t, mg "STRING_MOST" = some (.int 20 t)
  CHARACTERS : ∃ t, mg "CHARACTERS" = some (.str CHS t)
  LETTERS : ∃ t, mg "LETTERS" = some (.str "abcdefghijklmnopqrstuvwxyz" t)
  DIGITS : ∃ t, mg "DIGITS" = some (.str "0123456789" t)
  SIGNS : ∃ t, mg "SIGNS" = some (.str "(),;+-*<=" t)
  RESERVED : ∃ a, mg "RESERVED" = some (.ref a) ∧ ∀ H, SqT K H a (kw13.map V.str)

/-! ### the law's helpers -/
/-- the box of a law: a list of the list of digits and the place -/
def Box (H : Hp) (b d : Addr) (ds : List Int) (at_ : Nat) : Prop :=
  H b = some (.lst [.ref d, .int at_]) ∧ H d = some (.lst (ds.map V.int)) ∧ ds.length ≤ 4000
theorem Box.ne {H : Hp} {b d : Addr} {ds : List Int} {at_ : Nat} (h : Box H b d ds at_) : d ≠ b := fun e => by
  obtain ⟨h1, h2, _⟩ := h
  rw [e, h1] at h2
  have q : [V.ref d, V.int at_] = ds.map V.int := by
    have := Option.some.inj h2
    injection this
  cases ds with
  | nil => cases q
  | cons x r => cases q

section
variable {P : Program} {w : World} {K : PySem.W.Frag} {mg : Str → Option Value} {base : Heap}

def spCell (K : PySem.W.Frag) : Sp := fun vs H Q _ => ∃ (a : Addr) (ns : List Int) (k : Nat), vs = [.ref a, .int k] ∧ SqL K H a (ns.map V.int) ∧ ∀ v : Int, Q (.int v) H
theorem scCell : FnScope ["script", "k"] ["script", "k"] (defScope sCell) := ⟨rfl, rfl, rfl, by decide +kernel, rfl, by decide +kernel, by decide +kernel⟩
theorem ok_cell {f : Addr} {fd : FuncData} (F : Fun K "_law_cell" "_law_cell" sCell f fd) (T : Txt K mg) : FnOk P w K mg base CX0 1 f fd ["script", "k"] (spCell K) := by
  have sc := scCell
  refine F.ok sc (fun vs H Q E h => ?_) (fun cdv A outer s H vs Q E hr h => ?_)
  · obtain ⟨a, ns, k, rfl, _⟩ := h
    rfl
  · obtain ⟨a, ns, k, rfl, hS, q⟩ := h
    refine ⟨_, (pss_cons (ps_if (pt_cmpR op_lt (pv 1) (pe_callB call_len_seq (by rfl) T.len (by decide +kernel) (pa_cons (pv 0) pa_nil)) (nomark _))
      (pss_one (ps_ret (pe_ix ix_list (pv 0) (pv 1) (fun _ _ => rfl)))) pss_nil)
      (pss_one (ps_ret pe_int))), ?_⟩
    refine ⟨_, rfl, _, rfl, a, _, rfl, .inl hS, _, _, rfl, rfl, _, rfl, ite2 (fun e => ?_) (fun e => ?_)⟩
    · have hk : k < ns.length := by
        have := of_decide_eq_true e
        rw [List.length_map] at this
        omega
      exact ⟨_, rfl, _, rfl, a, _, _, .int ns[k], rfl, rfl, hS, atI_nat (by rw [List.getElem?_map, List.getElem?_eq_getElem hk]; rfl), q _⟩
    · exact q 0

def spDraw : Sp := fun vs H Q _ => ∃ (b d : Addr) (ds : List Int) (at_ : Nat) (m : Int), vs = [.ref b, .int m] ∧ Box H b d ds at_ ∧ 0 < m ∧
  ∀ r : Int, 0 ≤ r → r < m → Q (.int r) (upd H b (.lst [.ref d, .int ((at_ + 1 : Nat) : Int)]))
theorem scDraw : FnScope ["box", "many", "at"] ["box", "many"] (defScope sDraw) := ⟨rfl, rfl, rfl, by decide +kernel, rfl, by decide +kernel, by decide +kernel⟩
theorem ok_draw {f : Addr} {fd : FuncData} (F : Fun K "_law_draw" "_law_draw" sDraw f fd) (T : Txt K mg) : FnOk P w K mg base CX0 1 f fd ["box", "many"] spDraw := by
  have sc := scDraw
  refine F.ok sc (fun vs H Q E h => ?_) (fun cdv A outer s H vs Q E hr h => ?_)
  · obtain ⟨b, d, ds, at_, m, rfl, _⟩ := h
    rfl
  · obtain ⟨b, d, ds, at_, m, rfl, hB, hm, q⟩ := h
    refine ⟨_, (pss_cons (ps_set (i := 2) sc.nd rfl (.inl rfl) (pe_ix ix_list (pv 0) pe_int (fun _ _ => rfl)))
      (pss_cons (ps_asg (pe_op op_add (pv 2) pe_int) (pg_sub (pv 0) pe_int set_list))
      (pss_cons (ps_if (pt_cmpR op_lt (pv 2) (pe_callB call_len_seq (by rfl) T.len (by decide +kernel) (pa_cons (pe_ix ix_list (pv 0) pe_int (fun _ _ => rfl)) pa_nil)) (nomark _))
      (pss_one (ps_ret (pe_op op_mod (pe_callTy call_int1 (by rfl) T.bint (by decide +kernel) (pa_cons (pe_ix ix_list (pe_ix ix_list (pv 0) pe_int (fun _ _ => rfl)) (pv 2) (fun _ _ => rfl)) pa_nil)) (pv 1)))) pss_nil)
      (pss_one (ps_ret (pe_op op_mod (pe_callTy call_int1 (by rfl) T.bint (by decide +kernel) (pa_cons (pe_op op_add (pe_op op_mul (pv 2) pe_int) pe_int) pa_nil)) (pv 1))))))), ?_⟩
    obtain ⟨h1, h2, h3⟩ := hB
    have nd : d ≠ b := Box.ne ⟨h1, h2, h3⟩
    refine ⟨_, rfl, b, _, 1, .int at_, rfl, rfl, SqL.of h1, atI_nat (j := 1) rfl, ?_⟩
    refine ⟨_, rfl, _, _, rfl, rfl, _, rfl, b, _, 1, 1, rfl, rfl, h1, rfl, ?_⟩
    have e1 : upd H b (.lst ([V.ref d, V.int at_].set 1 (.int ((at_ : Int) + 1)))) b = some (.lst [.ref d, .int ((at_ + 1 : Nat) : Int)]) := upd_same
    have e2 : upd H b (.lst ([V.ref d, V.int at_].set 1 (.int ((at_ : Int) + 1)))) d = some (.lst (ds.map V.int)) := by rw [upd_ne nd]; exact h2
    refine ⟨_, rfl, _, rfl, b, _, 0, .ref d, rfl, rfl, SqL.of e1, atI_nat (j := 0) rfl, d, _, rfl, .inl (SqL.of e2), _, _, rfl, rfl, _, rfl, ite2 (fun e => ?_) (fun e => ?_)⟩
    · have hk : at_ < ds.length := by
        have := of_decide_eq_true e
        rw [List.length_map] at this
        omega
      refine ⟨_, rfl, b, _, 0, .ref d, rfl, rfl, SqL.of e1, atI_nat (j := 0) rfl, _, rfl, d, _, _, .int ds[at_], rfl, rfl, SqL.of e2, atI_nat (by rw [List.getElem?_map, List.getElem?_eq_getElem hk]; rfl), .inl ⟨_, rfl, ?_⟩⟩
      exact ⟨_, rfl, _, _, rfl, rfl, hm, q _ (Int.emod_nonneg _ (by omega)) (Int.emod_lt_of_pos _ hm)⟩
    · refine ⟨_, rfl, _, _, rfl, rfl, .inr (by decide), _, _, rfl, rfl, .inl ⟨_, rfl, ?_⟩⟩
      exact ⟨_, rfl, _, _, rfl, rfl, hm, q _ (Int.emod_nonneg _ (by omega)) (Int.emod_lt_of_pos _ hm)⟩

def spAlike (K : PySem.W.Frag) : Sp := fun vs H Q _ => ∃ (x y : V) (d : PyData), vs = [x, y] ∧ Dp K H x d ∧ Dp K H y d ∧ d ≠ .none ∧ d.showable = true ∧ d.hasDict = false ∧ d.depth ≤ 60 ∧ d.shown.length ≤ sizeLine ∧ Q (.bl true) H
theorem scAlike : FnScope ["one", "two"] ["one", "two"] (defScope sAlike) := ⟨rfl, rfl, rfl, by decide +kernel, rfl, by decide +kernel, by decide +kernel⟩
theorem ok_alike {f : Addr} {fd : FuncData} (F : Fun K "_law_alike" "_law_alike" sAlike f fd) (T : Txt K mg) : FnG P w K mg base CX0 1 f fd ["one", "two"] (spAlike K) := by
  have sc := scAlike
  refine okG F sc (fun vs H Q E h => ?_) (fun cdv A outer s H vs Q E hgd hr h => ?_)
  · obtain ⟨x, y, d, rfl, _⟩ := h
    rfl
  · obtain ⟨x, y, d, rfl, hx, hy, h1, h2, h3, h4, h5, q⟩ := h
    refine ⟨_, (pss_one (ps_ret (pe_cmpR op_eq (pe_callB (cr_repr hgd hr.units) (by rfl) T.repr (by decide +kernel) (pa_cons (pv 0) pa_nil)) (pe_callB (cr_repr hgd hr.units) (by rfl) T.repr (by decide +kernel) (pa_cons (pv 1) pa_nil)) (nomark _)))), ?_⟩
    refine ⟨_, rfl, x, d, rfl, hx, h1, h2, h3, h4, h5, _, rfl, y, d, rfl, hy, h1, h2, h3, h4, h5, rfl, ?_⟩
    rw [decide_eq_true rfl]
    exact q
end
end K1

set_option maxRecDepth 100000
set_option maxHeartbeats 4000000
namespace K1
open PySem PySem.Spec PyProof.Rows L2 GD
section
variable {P : Program} {w : World} {K : PySem.W.Frag} {mg : Str → Option Value} {base : Heap}

theorem snoc_ints (ds : List Int) (x : Int) : ds.map V.int ++ [V.int x] = (ds ++ [x]).map V.int := by rw [List.map_append]; rfl
theorem Same.lst {H H1 : Hp} {D : Addr} {o : HO} (s : Same H H1) (n : H D = none) : Same H (upd H1 D o) := fun b u e => by
  rw [upd_ne (ne_of_none e n)]
  exact s b u e

def spDigits (K : PySem.W.Frag) : Sp := fun vs H Q _ => ∃ (a : Addr) (ns : List Int), vs = [.ref a, .int 0, .int 63] ∧ SqL K H a (ns.map V.int) ∧
  ∀ (H' : Hp) (D : Addr) (ds : List Int), Same H H' → H D = none → H' D = some (.lst (ds.map V.int)) → ds.length ≤ 4000 → Q (.ref D) H'
theorem scDigits : FnScope ["script", "first", "last", "digits", "k", "cell", "turn", "seed"] ["script", "first", "last"] (defScope sDigits) := ⟨rfl, rfl, rfl, by decide +kernel, rfl, by decide +kernel, by decide +kernel⟩
theorem ok_digits {f fc : Addr} {fd fdc : FuncData} (F : Fun K "_law_digits" "_law_digits" sDigits f fd) (T : Txt K mg) (FC : FnOk P w K mg base CX0 1 fc fdc ["script", "k"] (spCell K))
    (mc : mg "_law_cell" = some (.ref fc)) (kc : PySem.W.keepIn K (.ref fc) = true) (bc : Binds K fdc ["script", "k"] []) : FnOk P w K mg base CX0 2 f fd ["script", "first", "last"] (spDigits K) := by
  have sc := scDigits
  refine F.ok sc (fun vs H Q E h => ?_) (fun cdv A outer s H vs Q E hr h => ?_)
  · obtain ⟨a, ns, rfl, _⟩ := h
    rfl
  · obtain ⟨a, ns, rfl, hS, q⟩ := h
    refine ⟨_, (pss_cons (ps_set (i := 3) sc.nd rfl (.inl rfl) (pe_lst pa_nil))
(pss_cons (ps_for PassesOwn.never rfl (pi_range2 rfl T.range (pa_cons (pv 1) (pa_cons (pv 2) pa_nil))) (pg_name (i := 4) sc.nd rfl (.inl rfl))
(pss_cons (ps_set (i := 5) sc.nd rfl (.inl rfl) (pe_call FC hr (by rfl) mc kc bc .nil pass0 (pa_cons (pv 0) (pa_cons (pv 4) pa_nil))))
(C8.pss_cut (ps_if (pt_cmpR op_lt (pv 5) pe_int (nomark _))
(pss_one (ps_set (i := 5) sc.nd rfl (.inl rfl) (pe_op op_sub pe_int (pe_op op_mul pe_int (pv 5))))) pss_nil)
(pss_one (ps_if (pt_cmpR op_ge (pv 5) pe_int (nomark _))
(pss_one (ps_for PassesOwn.never rfl (pi_range1 rfl T.range (pa_cons pe_int pa_nil)) (pg_name (i := 6) sc.nd rfl (.inl rfl))
(pss_one (ps_if (pt_cmpR op_gt (pv 5) pe_int (nomark _))
(pss_cons (ps_expr (pe_bm PySem.F.plainAttrs_list PySem.F.slot_list_append PySem.F.type_list_append mt_append (pv 3) (pa_cons (pe_op op_mod (pe_callTy call_int1 (by rfl) T.bint (by decide +kernel) (pa_cons (pv 5) pa_nil)) pe_int) pa_nil)))
(pss_one (ps_set (i := 5) sc.nd rfl (.inl rfl) (pe_op op_fdiv (pv 5) pe_int)))) pss_nil)))) (pss_cons (ps_set (i := 7) sc.nd rfl (.inl rfl) (pe_op op_mod (pe_callTy call_int1 (by rfl) T.bint (by decide +kernel) (pa_cons (pe_op op_add (pe_op op_add (pe_op op_mul (pv 5) pe_int) (pe_op op_mul (pv 4) pe_int)) pe_int) pa_nil)) pe_int))
(pss_one (ps_for PassesOwn.never rfl (pi_range1 rfl T.range (pa_cons pe_int pa_nil)) (pg_name (i := 6) sc.nd rfl (.inl rfl))
(pss_cons (ps_set (i := 7) sc.nd rfl (.inl rfl) (pe_op op_mod (pe_callTy call_int1 (by rfl) T.bint (by decide +kernel) (pa_cons (pe_op op_add (pe_op op_add (pe_op op_mul (pv 7) pe_int) (pe_op op_mul pe_int (pv 6))) pe_int) pa_nil)) pe_int))
(pss_one (ps_expr (pe_bm PySem.F.plainAttrs_list PySem.F.slot_list_append PySem.F.type_list_append mt_append (pv 3) (pa_cons (pe_op op_mod (pe_callTy call_int1 (by rfl) T.bint (by decide +kernel) (pa_cons (pe_op op_fdiv (pv 7) pe_int) pa_nil)) pe_int) pa_nil)))))))))))))
(pss_one (ps_ret (pv 3))))), ?_⟩
    refine ⟨Nat.zero_le _, fun D hD => ?_⟩
    refine ⟨_, rfl, _, rfl, 0, 63, rfl, ⟨by decide, by decide, by decide, by decide⟩, for_range (lo := 0) (n := 63) (fun i σ H' => ∃ (ds : List Int) (y4 y5 y6 y7 : Option V), σ = [some (.ref a), some (.int 0), some (.int 63), some (.ref D), y4, y5, y6, y7] ∧ Same H H' ∧ H' D = some (.lst (ds.map V.int)) ∧ ds.length ≤ 60 * i)
      ⟨[], none, none, none, none, rfl, Same.lst (Same.refl H) hD, upd_same, Nat.zero_le _⟩ ?_ ?_⟩
    · rintro i σ H1 hi ⟨ds, y4, y5, y6, y7, rfl, s1, e1, l1⟩
      refine ⟨_, rfl, _, rfl, a, ns, i, by rw [Int.zero_add]; rfl, s1.seq hS, fun c => ?_⟩
      refine ⟨fun σ' H' => ∃ c : Int, σ' = [some (.ref a), some (.int 0), some (.int 63), some (.ref D), some (.int (0 + (i : Nat))), some (.int c), y6, y7] ∧ H' = H1, ⟨_, rfl, _, _, rfl, rfl, _, rfl, ite2 (fun _ => ?_) (fun _ => ?_)⟩, ?_⟩
      · exact ⟨_, rfl, _, _, rfl, rfl, .inl (by decide), _, _, rfl, rfl, _, rfl, rfl⟩
      · exact ⟨_, rfl, rfl⟩
      · rintro σ' H' ⟨c, rfl, rfl⟩
        have big : ∀ {n : Nat}, n ≤ 5000 → n < sizeLine := fun h => Nat.lt_of_le_of_lt h (by decide)
        refine ⟨_, rfl, _, _, rfl, rfl, _, rfl, ite2 (fun _ => ?_) (fun _ => ?_)⟩
        · refine ⟨_, rfl, by decide, by decide, for_range (lo := 0) (n := 60) (fun j σ H' => ∃ (ds2 : List Int) (c2 : Int) (y6 : Option V), σ = [some (.ref a), some (.int 0), some (.int 63), some (.ref D), some (.int (0 + (i : Nat))), some (.int c2), y6, y7] ∧ Same H H' ∧ H' D = some (.lst (ds2.map V.int)) ∧ ds2.length ≤ 60 * i + j)
            ⟨ds, c, y6, rfl, s1, e1, l1⟩ ?_ ?_⟩
          · rintro j σ H2 hj ⟨ds2, c2, y6, rfl, s2, e2, l2⟩
            refine ⟨_, rfl, _, _, rfl, rfl, _, rfl, ite2 (fun _ => ?_) (fun _ => ?_)⟩
            · refine ⟨_, rfl, .inl ⟨rfl, _, SqL.of e2⟩, _, rfl, .inl ⟨_, rfl, _, _, rfl, rfl, (by show (0 : Int) < 1000; decide), D, _, _, rfl, rfl, e2, ?_, ?_⟩⟩
              · rw [List.length_map]
                exact big (by omega)
              · refine ⟨_, rfl, _, _, rfl, rfl, ⟨by decide, by decide⟩, ds2 ++ [c2 % 1000], _, _, rfl, Same.lst s2 hD, ?_, ?_⟩
                · rw [upd_same, snoc_ints]
                · rw [List.length_append, List.length_singleton]
                  omega
            · exact ⟨ds2, c2, _, rfl, s2, e2, by omega⟩
          · rintro σ H2 ⟨ds2, c2, y6, rfl, s2, e2, l2⟩
            exact ⟨ds2, _, _, _, _, rfl, s2, e2, by omega⟩
        · refine ⟨_, rfl, _, _, rfl, rfl, .inr (by decide), _, rfl, _, _, rfl, rfl, .inr (by decide), _, _, rfl, rfl, _, _, rfl, rfl, .inl ⟨_, rfl, _, _, rfl, rfl, (by show (0 : Int) < 2147483399; decide), ?_⟩⟩
          refine ⟨_, rfl, by decide, by decide, for_range (lo := 0) (n := 12) (fun j σ H' => ∃ (ds2 : List Int) (c2 : Int) (y6 : Option V), σ = [some (.ref a), some (.int 0), some (.int 63), some (.ref D), some (.int (0 + (i : Nat))), some (.int c), y6, some (.int c2)] ∧ Same H H' ∧ H' D = some (.lst (ds2.map V.int)) ∧ ds2.length ≤ 60 * i + j)
            ⟨ds, _, y6, rfl, s1, e1, l1⟩ ?_ ?_⟩
          · rintro j σ H2 hj ⟨ds2, c2, y6, rfl, s2, e2, l2⟩
            refine ⟨_, rfl, _, _, rfl, rfl, .inr (by decide), _, rfl, _, _, rfl, rfl, .inl (by decide), _, _, rfl, rfl, _, _, rfl, rfl, .inl ⟨_, rfl, _, _, rfl, rfl, (by show (0 : Int) < 2147483563; decide), ?_⟩⟩
            refine ⟨_, rfl, .inl ⟨rfl, _, SqL.of e2⟩, _, rfl, _, _, rfl, rfl, ⟨by decide, by decide⟩, .inl ⟨_, rfl, _, _, rfl, rfl, (by show (0 : Int) < 1000; decide), D, _, _, rfl, rfl, e2, ?_, ?_⟩⟩
            · rw [List.length_map]
              exact big (by omega)
            · refine ⟨ds2 ++ [(c2 * 40014 + 5 * (0 + (j : Nat)) + 3) % 2147483563 / 1009 % 1000], _, _, rfl, Same.lst s2 hD, ?_, ?_⟩
              all_goals try dsimp only
              · rw [upd_same, snoc_ints]
              · rw [List.length_append, List.length_singleton]
                omega
          · rintro σ H2 ⟨ds2, c2, y6, rfl, s2, e2, l2⟩
            exact ⟨ds2, _, _, _, _, rfl, s2, e2, by omega⟩
    · rintro σ H1 ⟨ds, y4, y5, y6, y7, rfl, s1, e1, l1⟩
      exact ⟨_, rfl, q H1 D ds s1 hD e1 (by omega)⟩
end
end K1

set_option maxRecDepth 100000
set_option maxHeartbeats 4000000
/-! the mathematics of law k01: lists of codes, no Python -/
namespace K1
open PySem

def S (l : List Nat) : Str := ⟨l.toArray⟩
theorem S_toList (l : List Nat) : (S l).cps.toList = l := rfl
theorem S_len (l : List Nat) : (S l).length = l.length := by show l.toArray.size = _; simp
theorem S_of (z : Str) : S z.cps.toList = z := by cases z; rfl
theorem S_app (a b : List Nat) : S a ++ S b = S (a ++ b) := by
  show (⟨a.toArray ++ b.toArray⟩ : Str) = ⟨(a ++ b).toArray⟩
  rw [List.append_toArray]
theorem S_inj {a b : List Nat} (h : S a = S b) : a = b := congrArg (fun z : Str => z.cps.toList) h

/-! ### finding a sign -/
section
open Builtin Builtin.Str StrLaws
theorem occ_stop (s sub : Str) (hi : Nat) : ∀ (l : List Nat) (st : Array Nat × Nat), st.fst.size = 1 → (forIn l st (occBody s sub hi 1)).run.fst = st.fst
  | [], st, h => rfl
  | a :: l, st, h => by
    rw [List.forIn_cons]
    unfold occBody
    rw [if_neg (fun z => by have := z.1.1.1; omega)]
    exact occ_stop s sub hi l st h
theorem occ_first (x : Str) (c : Nat) : ∀ (m cur free : Nat), free ≤ cur →
    ((∀ k, cur ≤ k → k < cur + m → x.cps.toList[k]? ≠ some c) ∧ (forIn (List.range' cur m) ((#[] : Array Nat), free) (occBody x ⟨#[c]⟩ x.length 1)).run.fst = #[]) ∨
    ∃ k, cur ≤ k ∧ k < cur + m ∧ x.cps.toList[k]? = some c ∧ (∀ j, cur ≤ j → j < k → x.cps.toList[j]? ≠ some c) ∧ (forIn (List.range' cur m) ((#[] : Array Nat), free) (occBody x ⟨#[c]⟩ x.length 1)).run.fst = #[k]
  | 0, cur, free, h => .inl ⟨fun k h1 h2 => by omega, rfl⟩
  | m + 1, cur, free, h => by
    rw [List.range'_succ, List.forIn_cons]
    unfold occBody
    by_cases hc : x.cps.toList[cur]? = some c
    · have q := (subAt_one x c cur).mpr hc
      rw [if_pos ⟨⟨⟨by simp, h⟩, q.1⟩, q.2⟩]
      refine .inr ⟨cur, Nat.le_refl _, by omega, hc, fun j h1 h2 => by omega, ?_⟩
      exact occ_stop x _ _ _ _ rfl
    · rw [if_neg (fun z => hc ((subAt_one x c cur).mp ⟨z.1.2, z.2⟩))]
      rcases occ_first x c m (cur + 1) free (by omega) with ⟨h1, h2⟩ | ⟨k, h1, h2, h3, h4, h5⟩
      · refine .inl ⟨fun k k1 k2 => ?_, h2⟩
        by_cases e : k = cur
        · rw [e]; exact hc
        · exact h1 k (by omega) (by omega)
      · refine .inr ⟨k, by omega, by omega, h3, fun j j1 j2 => ?_, h5⟩
        by_cases e : j = cur
        · rw [e]; exact hc
        · exact h4 j (by omega) j2
/-- s.find(c, i): the first place from i on -/
theorem find_one (x : Str) (c i : Nat) (hi : i ≤ x.length) :
    (Txt.find3 x ⟨#[c]⟩ (i : Nat) = -1 ∧ c ∉ x.cps.toList.drop i) ∨
    ∃ k : Nat, Txt.find3 x ⟨#[c]⟩ (i : Nat) = ((i + k : Nat) : Int) ∧ (x.cps.toList.drop i)[k]? = some c ∧ c ∉ (x.cps.toList.drop i).take k := by
  have e : fromIndex x.length (i : Nat) = i := by
    show (max (0 : Int) (if ((i : Nat) : Int) < 0 then _ else ((i : Nat) : Int))).toNat = i
    rw [if_neg (by omega)]
    omega
  unfold Txt.find3
  rw [e, occ_eq]
  have xl : x.length = x.cps.toList.length := by show x.cps.size = _; simp
  rcases occ_first x c (x.length + 1 - i) i i (Nat.le_refl _) with ⟨h1, h2⟩ | ⟨k, h1, h2, h3, h4, h5⟩
  · left
    rw [h2]
    refine ⟨rfl, fun hm => ?_⟩
    obtain ⟨j, hj⟩ := List.getElem?_of_mem hm
    rw [List.getElem?_drop] at hj
    have := (List.getElem?_eq_some_iff.mp hj).1
    exact h1 (i + j) (by omega) (by omega) hj
  · right
    rw [h5]
    refine ⟨k - i, ?_, ?_, fun hm => ?_⟩
    · show ((k : Nat) : Int) = _
      omega
    · rw [List.getElem?_drop, show i + (k - i) = k by omega]
      exact h3
    · obtain ⟨j, hj⟩ := List.getElem?_of_mem hm
      have hlt : j < k - i := by
        have := (List.getElem?_eq_some_iff.mp hj).1
        rw [List.length_take] at this
        omega
      rw [List.getElem?_take_of_lt hlt, List.getElem?_drop] at hj
      exact h4 (i + j) (by omega) (by omega) hj
end

/-! ### tokens -/
def LET : List Nat := ("abcdefghijklmnopqrstuvwxyz" : Str).cps.toList
def DIG : List Nat := ("0123456789" : Str).cps.toList
def SGN : List Nat := ("(),;+-*<=" : Str).cps.toList
def mayB (c : Nat) : Bool := decide (32 ≤ c ∧ c ≤ 126 ∧ c ≠ 37 ∧ c ≠ 34 ∧ c ≠ 124)
/-- how many of cs stand at the beginning -/
def run (cs l : List Nat) : Nat := (l.takeWhile fun c => decide (c ∈ cs)).length
def val (ds : List Nat) : Nat := ds.foldl (fun acc c => acc * 10 + (c - 48)) 0
inductive Tok where
  | word (l : List Nat) | num (n : Nat) | str (l : List Nat) | sign (c : Nat)
/-- the text of a number -/
def numT (n : Nat) : List Nat := (Str.ofString (toString (n : Int))).cps.toList
/-- how far the next quote is -/
def toQ (r : List Nat) : Nat := (r.takeWhile fun d => d != 34).length
/-- the token at the beginning, and how many signs it has -/
def lexC (c : Nat) (r : List Nat) : Option (Tok × Nat) :=
    if c ∈ LET then (if run LET (c :: r) ≤ 6 then some (.word ((c :: r).take (run LET (c :: r))), run LET (c :: r)) else none)
    else if c ∈ DIG then
      (if run DIG (c :: r) ≤ 5 ∧ (c :: r).take (run DIG (c :: r)) = numT (val ((c :: r).take (run DIG (c :: r)))) then
        some (.num (val ((c :: r).take (run DIG (c :: r)))), run DIG (c :: r)) else none)
    else if c = 34 then
      (if toQ r < r.length ∧ toQ r ≤ 20 ∧ (r.take (toQ r)).all mayB = true then some (.str (r.take (toQ r)), toQ r + 2) else none)
    else if c ∈ SGN then some (.sign c, 1) else none
/-- how a line is split -/
inductive Lex : List Nat → Option (List Tok) → Prop
  | nil : Lex [] (some [])
  | sp {r o} : Lex r o → Lex (32 :: r) o
  | bad {c r} : c ≠ 32 → lexC c r = none → Lex (c :: r) none
  | tok {c r t k o} : c ≠ 32 → lexC c r = some (t, k) → Lex ((c :: r).drop k) o → Lex (c :: r) (o.map (t :: ·))

theorem run_le (cs l : List Nat) : run cs l ≤ l.length := (List.takeWhile_sublist _).length_le
theorem run_pos {cs : List Nat} {c : Nat} {r : List Nat} (h : c ∈ cs) : 1 ≤ run cs (c :: r) := by
  unfold run
  rw [List.takeWhile_cons, if_pos (decide_eq_true h)]
  simp
theorem lexC_pos {c : Nat} {r : List Nat} {t : Tok} {k : Nat} (h : lexC c r = some (t, k)) : 1 ≤ k := by
  unfold lexC at h
  by_cases h1 : c ∈ LET
  · rw [if_pos h1] at h
    split at h
    · cases h
      exact run_pos h1
    · cases h
  rw [if_neg h1] at h
  by_cases h2 : c ∈ DIG
  · rw [if_pos h2] at h
    split at h
    · cases h
      exact run_pos h2
    · cases h
  rw [if_neg h2] at h
  by_cases h3 : c = 34
  · rw [if_pos h3] at h
    split at h
    · cases h
      omega
    · cases h
  rw [if_neg h3] at h
  split at h
  · cases h
    exact Nat.le_refl _
  · cases h
/-- every line is split in some way -/
theorem lex_all : ∀ (n : Nat) (l : List Nat), l.length ≤ n → ∃ o, Lex l o
  | _, [], _ => ⟨_, .nil⟩
  | 0, _ :: _, h => by simp at h
  | n + 1, c :: r, h => by
    have hr : r.length ≤ n := by simpa using h
    by_cases hc : c = 32
    · obtain ⟨o, ho⟩ := lex_all n r hr
      subst hc
      exact ⟨o, .sp ho⟩
    · cases e : lexC c r with
      | none => exact ⟨none, .bad hc e⟩
      | some tk =>
        obtain ⟨t, k⟩ := tk
        have hk := lexC_pos e
        obtain ⟨o, ho⟩ := lex_all n ((c :: r).drop k) (by rw [List.length_drop, List.length_cons]; omega)
        exact ⟨_, .tok hc e ho⟩
/-! ### quotes come in twos -/
def q34 (l : List Nat) : Nat := l.count 34
theorem q34_none {l : List Nat} (h : 34 ∉ l) : q34 l = 0 := List.count_eq_zero.mpr h
theorem q34_app (a b : List Nat) : q34 (a ++ b) = q34 a + q34 b := List.count_append
theorem run_take (cs l : List Nat) : l.take (run cs l) = l.takeWhile fun c => decide (c ∈ cs) := by
  unfold run
  exact (List.prefix_iff_eq_take.mp (List.takeWhile_prefix _)).symm
theorem mem_tw {p : Nat → Bool} {x : Nat} : ∀ {l : List Nat}, x ∈ l.takeWhile p → p x = true
  | [], h => by cases h
  | a :: l, h => by
    rw [List.takeWhile_cons] at h
    split at h
    · rename_i ha
      rcases List.mem_cons.mp h with rfl | h
      · exact ha
      · exact mem_tw h
    · cases h
theorem mem_run {cs l : List Nat} {c : Nat} (h : c ∈ l.take (run cs l)) : c ∈ cs := by
  rw [run_take] at h
  exact of_decide_eq_true (mem_tw h)
theorem at_tw {p : Nat → Bool} : ∀ {l : List Nat}, (l.takeWhile p).length < l.length → ∃ x, l[(l.takeWhile p).length]? = some x ∧ p x = false
  | [], h => by cases h
  | a :: l, h => by
    rw [List.takeWhile_cons] at h ⊢
    cases ha : p a with
    | true =>
      rw [ha] at h
      simp only [if_true, List.length_cons] at h ⊢
      obtain ⟨x, h1, h2⟩ := at_tw (p := p) (l := l) (by omega)
      exact ⟨x, by simpa using h1, h2⟩
    | false => exact ⟨a, by simp, ha⟩
theorem take_tw {p : Nat → Bool} (l : List Nat) : l.take (l.takeWhile p).length = l.takeWhile p := (List.prefix_iff_eq_take.mp (List.takeWhile_prefix _)).symm
theorem lexC_even {c : Nat} {r : List Nat} {t : Tok} {k : Nat} (h : lexC c r = some (t, k)) : q34 ((c :: r).take k) % 2 = 0 := by
  unfold lexC at h
  by_cases h1 : c ∈ LET
  · rw [if_pos h1] at h
    split at h
    · cases h
      rw [q34_none (fun z => absurd (mem_run z) (by decide))]
    · cases h
  rw [if_neg h1] at h
  by_cases h2 : c ∈ DIG
  · rw [if_pos h2] at h
    split at h
    · cases h
      rw [q34_none (fun z => absurd (mem_run z) (by decide))]
    · cases h
  rw [if_neg h2] at h
  by_cases h3 : c = 34
  · rw [if_pos h3] at h
    split at h
    · rename_i hk
      cases h
      subst h3
      have n1 : 34 ∉ r.take (toQ r) := fun z => by
        unfold toQ at z
        rw [take_tw] at z
        have := mem_tw z
        simp at this
      obtain ⟨x, hx, hp⟩ := at_tw (p := fun d => d != 34) (l := r) hk.1
      have hx' : x = 34 := by simpa using hp
      subst hx'
      have hx : r[toQ r]? = some 34 := hx
      rw [List.take_succ_cons, List.take_add_one, hx]
      show q34 ([34] ++ (r.take _ ++ [34])) % 2 = 0
      rw [q34_app, q34_app, q34_none n1]
      rfl
    · cases h
  rw [if_neg h3] at h
  split at h
  · cases h
    show q34 [c] % 2 = 0
    rw [q34_none (fun z => h3 (List.mem_singleton.mp z).symm)]
  · cases h
theorem lex_even {l : List Nat} {o : Option (List Tok)} (h : Lex l o) : o ≠ none → q34 l % 2 = 0 := by
  induction h with
  | nil => exact fun _ => rfl
  | sp _ ih =>
    intro h
    show q34 ([32] ++ _) % 2 = 0
    rw [q34_app]
    have := ih h
    have e : q34 [32] = 0 := rfl
    omega
  | bad _ _ => exact fun h => absurd rfl h
  | @tok c r t k o _ e _ ih =>
    intro h
    have h1 := lexC_even e
    have h2 := ih (fun z => h (by rw [z]; rfl))
    have e := q34_app ((c :: r).take k) ((c :: r).drop k)
    rw [List.take_append_drop] at e
    omega

/-! ### texts that are joined -/
/-- a token of the law's menu, spelled -/
def spell : Tok → List Nat
  | .word l => l
  | .num n => numT n
  | .str l => [34] ++ l ++ [34]
  | .sign c => [c]
/-- a token that is well made -/
def good : Tok → Prop
  | .word l => l ≠ [] ∧ l.length ≤ 6 ∧ ∀ c ∈ l, c ∈ LET
  | .num n => n ≤ 99999
  | .str l => l.length ≤ 20 ∧ ∀ c ∈ l, mayB c = true
  | .sign c => c ∈ SGN
/-- what may follow a token -/
def apart : Tok → List Nat → Prop
  | .word _, l => ∀ c r, l = c :: r → c ∉ LET
  | .num _, l => ∀ c r, l = c :: r → c ∉ DIG
  | _, _ => True
theorem run_all {cs a b : List Nat} (ha : ∀ c ∈ a, c ∈ cs) (hb : ∀ c r, b = c :: r → c ∉ cs) : run cs (a ++ b) = a.length := by
  unfold run
  rw [List.takeWhile_append_of_pos (fun c hc => decide_eq_true (ha c hc)), List.length_append]
  cases b with
  | nil => simp
  | cons c r => rw [List.takeWhile_cons, if_neg (by simpa using hb c r rfl)]; simp
theorem digits_len : ∀ (k m : Nat), m < 10 ^ (k + 1) → (Nat.toDigits 10 m).length ≤ k + 1
  | k, m, h => by
    by_cases hm : m < 10
    · rw [Nat.toDigits_of_lt_base hm]
      exact Nat.le_add_left _ _
    · cases k with
      | zero => exact absurd h hm
      | succ k =>
        have lt : m % 10 < 10 := Nat.mod_lt m (by decide)
        have t : Nat.toDigits 10 (m / 10) ++ Nat.toDigits 10 (m % 10) = Nat.toDigits 10 (10 * (m / 10) + m % 10) := Nat.toDigits_append_toDigits (by decide) (by omega) lt
        rw [Nat.div_add_mod] at t
        rw [← t, List.length_append, Nat.toDigits_of_lt_base lt]
        have := digits_len k (m / 10) (by rw [Nat.pow_succ] at h; omega)
        show (Nat.toDigits 10 (m / 10)).length + 1 ≤ k + 1 + 1
        omega
theorem numT_eq (n : Nat) : numT n = (Nat.toDigits 10 n).map Char.toNat := PySem.W.KIN.signs_num n
theorem numT_dig {n : Nat} (h : n ≤ 99999) : numT n ≠ [] ∧ (numT n).length ≤ 5 ∧ (∀ c ∈ numT n, c ∈ DIG) ∧ val (numT n) = n := by
  rw [numT_eq]
  refine ⟨fun e => ?_, ?_, fun c hc => ?_, PySem.W.KIN.val_back n⟩
  · have := PySem.W.KIN.val_back n
    have q := List.map_eq_nil_iff.mp e
    have l := toDigits_len_ge 10 n
    rw [q] at l
    exact absurd l (by decide)
  · rw [List.length_map]
    exact digits_len 4 n (by omega)
  · obtain ⟨ch, hch, e⟩ := List.mem_map.mp hc
    have r := PyProof.Rows.digit_range (Nat.isDigit_of_mem_toDigits (by decide) (by decide) hch)
    have hD : ∀ d, 48 ≤ d → d ≤ 57 → d ∈ DIG := by
      intro d h1 h2
      have : ∀ k, k < 10 → 48 + k ∈ DIG := by decide
      have q := this (d - 48) (by omega)
      rw [show 48 + (d - 48) = d by omega] at q
      exact q
    rw [← e]
    exact hD _ r.1 r.2
theorem let_dig {c : Nat} (h : c ∈ DIG) : c ∉ LET := fun z => by
  have : ∀ c ∈ DIG, c ∉ LET := by decide
  exact this c h z
theorem take_all {a b : List Nat} : (a ++ b).take a.length = a := List.take_left' rfl
theorem lex_spell {t : Tok} {b : List Nat} (g : good t) (ap : apart t b) : ∃ c r, spell t ++ b = c :: r ∧ c ≠ 32 ∧ lexC c r = some (t, (spell t).length) := by
  cases t with
  | word l =>
    obtain ⟨h1, h2, h3⟩ := g
    cases l with
    | nil => exact absurd rfl h1
    | cons c r =>
      have hc : c ∈ LET := h3 c List.mem_cons_self
      refine ⟨c, r ++ b, rfl, fun z => absurd hc (by rw [z]; decide), ?_⟩
      unfold lexC
      have e : run LET (c :: (r ++ b)) = (c :: r).length := run_all (a := c :: r) h3 ap
      rw [if_pos hc, e, if_pos h2]
      show some (Tok.word (((c :: r) ++ b).take (c :: r).length), _) = _
      rw [take_all]
      rfl
  | num n =>
    obtain ⟨h1, h2, h3, h4⟩ := numT_dig (show n ≤ 99999 from g)
    show ∃ c r, numT n ++ b = c :: r ∧ c ≠ 32 ∧ lexC c r = some (Tok.num n, (numT n).length)
    obtain ⟨l, hl⟩ : ∃ l, l = numT n := ⟨_, rfl⟩
    rw [← hl] at h1 h2 h3 h4 ⊢
    cases l with
    | nil => exact absurd rfl h1
    | cons c r =>
      have hc : c ∈ DIG := h3 c List.mem_cons_self
      refine ⟨c, r ++ b, rfl, fun z => absurd hc (by rw [z]; decide), ?_⟩
      unfold lexC
      have e : run DIG (c :: (r ++ b)) = (c :: r).length := run_all (a := c :: r) h3 ap
      have e2 : (c :: (r ++ b)).take (c :: r).length = c :: r := take_all (a := c :: r) (b := b)
      rw [if_neg (let_dig hc), if_pos hc, e, e2, h4, if_pos ⟨h2, hl⟩]
  | str l =>
    obtain ⟨h1, h2⟩ := g
    refine ⟨34, l ++ [34] ++ b, rfl, by decide, ?_⟩
    unfold lexC
    have n34 : ∀ c ∈ l, (c != 34) = true := fun c hc => by
      have := h2 c hc
      unfold mayB at this
      have := of_decide_eq_true this
      simp [this.2.2.2.1]
    have e : toQ (l ++ [34] ++ b) = l.length := by
      unfold toQ
      rw [List.append_assoc, List.takeWhile_append_of_pos n34, List.length_append]
      show l.length + (List.takeWhile _ (34 :: b)).length = _
      rw [List.takeWhile_cons, if_neg (by decide)]
      rfl
    have e2 : (l ++ [34] ++ b).take l.length = l := by rw [List.append_assoc]; exact take_all
    rw [if_neg (by decide), if_neg (by decide), if_pos rfl, e, e2, if_pos ⟨by simp, h1, List.all_eq_true.mpr h2⟩]
    show some (Tok.str l, l.length + 2) = some (Tok.str l, ([34] ++ l ++ [34]).length)
    simp
  | sign c =>
    have hs : c ∈ SGN := g
    have hd : ∀ c ∈ SGN, c ∉ LET ∧ c ∉ DIG ∧ c ≠ 34 ∧ c ≠ 32 := by decide
    obtain ⟨h1, h2, h3, h4⟩ := hd c hs
    refine ⟨c, b, rfl, h4, ?_⟩
    unfold lexC
    rw [if_neg h1, if_neg h2, if_neg h3, if_pos hs]
    rfl

/-- tokens with gaps of blanks behind them -/
def joined : List (Tok × Nat) → List Nat
  | [] => []
  | (t, g) :: r => spell t ++ List.replicate g 32 ++ joined r
/-- where a gap must stand -/
def gapped : List (Tok × Nat) → Prop
  | (t, g) :: (u, h) :: r => (g = 0 → apart t (spell u ++ (List.replicate h 32 ++ joined r))) ∧ gapped ((u, h) :: r)
  | _ => True
theorem lex_blanks {l : List Nat} {o : Option (List Tok)} (h : Lex l o) : ∀ g, Lex (List.replicate g 32 ++ l) o
  | 0 => h
  | g + 1 => by
    rw [List.replicate_succ]
    exact .sp (lex_blanks h g)
/-- a joined text is split into its tokens, and what stands behind is split as it is -/
theorem lex_joined {tail : List Nat} {o : Option (List Tok)} (ht : Lex tail o) (hs : ∀ c r, tail = c :: r → c = 32) :
    ∀ (l : List (Tok × Nat)), (∀ p ∈ l, good p.1) → gapped l → Lex (joined l ++ tail) (o.map (l.map (·.1) ++ ·))
  | [], _, _ => by
    have e : (o.map (([] : List (Tok × Nat)).map (·.1) ++ ·)) = o := by cases o <;> rfl
    rw [e]
    exact ht
  | (t, g) :: r, hg, hp => by
    have hr : Lex (joined r ++ tail) (o.map (r.map (·.1) ++ ·)) := lex_joined ht hs r (fun p h => hg p (List.mem_cons_of_mem _ h)) (by cases r with | nil => trivial | cons a b => exact hp.2)
    have ap : apart t (List.replicate g 32 ++ (joined r ++ tail)) := by
      have sp : ∀ l : List Nat, apart t (32 :: l) := fun l => by
        cases t with
        | word _ => exact fun c r e => by cases e; decide
        | num _ => exact fun c r e => by cases e; decide
        | str _ => trivial
        | sign _ => trivial
      cases g with
      | succ g => exact sp _
      | zero =>
        cases r with
        | nil =>
          cases tail with
          | nil => cases t <;> first | trivial | exact fun c r e => by cases e
          | cons c q => rw [hs c q rfl]; exact sp _
        | cons a b =>
          obtain ⟨u, h⟩ := a
          have q := hp.1 rfl
          show apart t (spell u ++ List.replicate h 32 ++ joined b ++ tail)
          have ne : spell u ≠ [] := by
            have gu := hg (u, h) (by simp)
            cases u with
            | word l => exact gu.1
            | num n => exact (numT_dig gu).1
            | str l => exact fun z => by cases z
            | sign c => exact fun z => by cases z
          cases e : spell u with
          | nil => exact absurd e ne
          | cons c v =>
            rw [e] at q
            cases t with
            | word _ => exact fun c' r' e' => by cases e'; exact q c _ rfl
            | num _ => exact fun c' r' e' => by cases e'; exact q c _ rfl
            | str _ => trivial
            | sign _ => trivial
    obtain ⟨c, v, e1, e2, e3⟩ := lex_spell (hg (t, g) List.mem_cons_self) ap
    have e0 : joined ((t, g) :: r) ++ tail = spell t ++ (List.replicate g 32 ++ (joined r ++ tail)) := by
      show spell t ++ List.replicate g 32 ++ joined r ++ tail = _
      simp only [List.append_assoc]
    rw [e0, e1]
    have e4 : (c :: v).drop (spell t).length = List.replicate g 32 ++ (joined r ++ tail) := by
      rw [← e1]
      exact List.drop_left' rfl
    have := Lex.tok e2 e3 (by rw [e4]; exact lex_blanks hr g)
    cases o with
    | none => exact this
    | some ts => exact this
end K1

set_option maxRecDepth 100000
set_option maxHeartbeats 4000000
namespace K1
open PySem PySem.Spec PyProof.Rows L2 GD
section
variable {P : Program} {w : World} {K : PySem.W.Frag} {mg : Str → Option Value} {base : Heap}

theorem item_S {L : List Nat} {i : Nat} {c : Nat} (h : L[i]? = some c) : (S L).cps[((i : Nat) : Int).toNat]? = some c := by
  show (L.toArray)[i]? = some c
  simpa using h
theorem cut_S (L : List Nat) (a b : Nat) (h1 : a ≤ b) (h2 : b ≤ L.length) : cutS (S L) (some (a : Nat)) (some (b : Nat)) = S ((L.drop a).take (b - a)) := by
  unfold cutS
  rw [S_len, HT.sIx_nat, HT.sIx_nat, Nat.min_eq_left h2, Nat.min_eq_left (by omega)]
  rfl
theorem smallL {n : Nat} (h : n ≤ 5000) : n ≤ sizeLine := Nat.le_trans h (by decide)

theorem in63 {L : List Nat} {e : Nat} (hl : L.length ≤ 5000) (lt : e < L.length) : ((e : Nat) : Int) < 2 ^ 63 := by
  have : e < 5000 := by omega
  omega
theorem in_S {L : List Nat} {e : Nat} (lt : e < L.length) : ((e : Nat) : Int) < (S L).length := by
  rw [S_len]
  omega
/-! ### end_of_run -/
def endRun (cs L : List Nat) (at_ : Nat) : Nat := at_ + run cs (L.drop at_)
theorem run_drop {cs L : List Nat} {i c : Nat} (h : L[i]? = some c) (hc : c ∈ cs) : endRun cs L i = endRun cs L (i + 1) := by
  unfold endRun run
  have e : L.drop i = c :: L.drop (i + 1) := by
    obtain ⟨h1, h2⟩ := List.getElem?_eq_some_iff.mp h
    rw [List.drop_eq_getElem_cons h1, h2]
  rw [e, List.takeWhile_cons, if_pos (decide_eq_true hc), List.length_cons]
  omega
theorem run_stop {cs L : List Nat} {i : Nat} (h : ∀ c, L[i]? = some c → c ∉ cs) : endRun cs L i = i := by
  unfold endRun run
  cases e : L.drop i with
  | nil => rfl
  | cons c r =>
    have q : L[i]? = some c := by
      have : (L.drop i)[0]? = some c := by rw [e]; rfl
      rw [List.getElem?_drop] at this
      exact this
    rw [List.takeWhile_cons, if_neg (by simpa using h c q)]
    rfl
def spEnd : Sp := fun vs H Q _ => ∃ (L cs : List Nat) (at_ : Nat), vs = [.str (S L), .int (at_ : Nat), .str (S cs)] ∧ at_ ≤ L.length ∧ L.length ≤ 5000 ∧ Q (.int (endRun cs L at_ : Nat)) H
theorem scEnd : FnScope ["line", "at", "characters", "end"] ["line", "at", "characters"] (defScope sEndOfRun) := ⟨rfl, rfl, rfl, by decide +kernel, rfl, by decide +kernel, by decide +kernel⟩
theorem ok_end {f : Addr} {fd : FuncData} (F : Fun K "end_of_run" "end_of_run" sEndOfRun f fd) (T : Txt K mg) : FnOk P w K mg base CX0 1 f fd ["line", "at", "characters"] spEnd := by
  have sc := scEnd
  refine F.ok sc (fun vs H Q E h => ?_) (fun cdv A outer s H vs Q E hr h => ?_)
  · obtain ⟨L, cs, at_, rfl, _⟩ := h
    rfl
  · obtain ⟨L, cs, at_, rfl, ha, hl, q⟩ := h
    refine ⟨_, (pss_cons (ps_set (i := 3) sc.nd rfl (.inl rfl) (pv 1))
(pss_cons (ps_while PassesOwn.never (PW.pt (pw_and (pt_cmpR op_lt (pv 3) (pe_callB call_len_str (by rfl) T.len (by decide +kernel) (pa_cons (pv 0) pa_nil)) (nomark _)) (pw_and1 (pt_cmpR op_in_sign (pe_item_str (pv 0) (pv 3) (fun _ _ => rfl)) (pv 2) rfl))))
(pss_one (ps_aug (i := 3) sc.nd rfl (.inl rfl) pe_int ip_add)))
(pss_one (ps_ret (pv 3))))), ?_⟩
    refine ⟨_, rfl, fun m σ H' => ∃ e : Nat, σ = [some (.str (S L)), some (.int (at_ : Nat)), some (.str (S cs)), some (.int (e : Nat))] ∧ H' = H ∧ e ≤ L.length ∧ m = L.length - e ∧ endRun cs L e = endRun cs L at_, ⟨_, at_, rfl, rfl, ha, rfl, rfl⟩, ?_⟩
    rintro m σ H' ⟨e, rfl, rfl, he, rfl, hq⟩
    have done : endRun cs L e = e → Q (.int (e : Nat)) H' := fun z => by rw [← hq, z] at q; exact q
    refine ⟨_, rfl, _, rfl, _, rfl, by rw [S_len]; exact smallL hl, _, _, rfl, rfl, _, rfl, ?_⟩
    refine ite2 (fun h1 => ?_) (fun h1 => ?_)
    · have lt : e < L.length := by
        have := of_decide_eq_true h1
        rw [S_len] at this
        omega
      have hx := List.getElem?_eq_getElem lt
      refine ⟨_, rfl, _, rfl, _, _, _, rfl, rfl, by omega, in63 hl lt, in_S lt, item_S hx, _, rfl, _, _, rfl, rfl, _, rfl, ite2 (fun h2 => ?_) (fun h2 => ?_)⟩
      · have h2 : L[e] ∈ cs := of_decide_eq_true h2
        refine ⟨fun σ' H2 => σ' = [some (.str (S L)), some (.int (at_ : Nat)), some (.str (S cs)), some (.int ((e + 1 : Nat) : Int))] ∧ H2 = H', fun σ' H2 h => ?_, _, rfl, _, _, rfl, rfl, rfl, rfl⟩
        obtain ⟨rfl, rfl⟩ := h
        exact ⟨_, by omega, e + 1, rfl, rfl, lt, rfl, by rw [← run_drop hx h2]; exact hq⟩
      · have h2 : L[e] ∉ cs := fun z => h2 (decide_eq_true z)
        exact ⟨_, rfl, done (run_stop fun c hc => by rw [hx] at hc; cases hc; exact h2)⟩
    · have ge : e = L.length := by
        have : ¬ ((e : Int) < (S L).length) := fun z => h1 (decide_eq_true z)
        rw [S_len] at this
        omega
      refine iteF ⟨_, rfl, done (run_stop fun c hc => ?_)⟩
      rw [ge, List.getElem?_eq_none (Nat.le_refl _)] at hc
      cases hc
end
end K1

set_option maxRecDepth 100000
set_option maxHeartbeats 4000000
namespace K1
open PySem PySem.Spec PyProof.Rows L2 GD
theorem pe_gstr {X : Cx} {x z : Str} {t : PySem.Tok} {pos : Pos} (hg : Gl X x) (hm : X.mg x = some (.str z t)) (hd : (x == ("__debug__" : Str)) = false := by decide) : PE X (.Name x pos) (tC (.str z)) := pe_glob hg hm ⟨_, rfl⟩ hd
theorem pe_gint {X : Cx} {x : Str} {i : Int} {t : PySem.Tok} {pos : Pos} (hg : Gl X x) (hm : X.mg x = some (.int i t)) (hd : (x == ("__debug__" : Str)) = false := by decide) : PE X (.Name x pos) (tC (.int i)) := pe_glob hg hm ⟨_, rfl⟩ hd
/-- all is kept but the table at P, which may have grown -/
def Kp (P : Addr) (H H' : Hp) : Prop := GxR.TabG H' P ∧ ∀ b o, b ≠ P → H b = some o → H' b = some o
theorem Same.kp {P : Addr} {H H' : Hp} (s : Same H H') (t : GxR.TabG H P) : Kp P H H' := by
  obtain ⟨ps, e, r⟩ := t
  exact ⟨⟨ps, s _ _ e, r⟩, fun b o _ h => s b o h⟩
theorem Kp.refl {P : Addr} {H : Hp} (t : GxR.TabG H P) : Kp P H H := Same.kp (Same.refl H) t
theorem Kp.trans {P : Addr} {H H1 H2 : Hp} (a : Kp P H H1) (b : Kp P H1 H2) : Kp P H H2 := ⟨b.1, fun c o n h => b.2 c o n (a.2 c o n h)⟩
theorem Kp.of {P : Addr} {H H' : Hp} (t : GxR.Tabbed P H H') : Kp P H H' := ⟨t.1, fun b o n h => by rw [t.2 b n]; exact h⟩
theorem TabG.ne {P p : Addr} {H : Hp} (t : GxR.TabG H P) (n : H p = none) : p ≠ P := fun e => by
  obtain ⟨ps, h, _⟩ := t
  rw [e, h] at n
  cases n
theorem Kp.free {P p : Addr} {H H' : Hp} (k : Kp P H H') (n : H' p = none) (t : GxR.TabG H P) : H p = none := by
  cases e : H p with
  | none => rfl
  | some o =>
    have := k.2 p o (TabG.ne k.1 n) e
    rw [n] at this
    cases this

theorem two_le : 2 ≤ sizeLine := by decide
def tokV : Tok → List V
  | .word l => [.str "word", .str (S l)]
  | .num n => [.str "number", .int (n : Nat)]
  | .str l => [.str "string", .str (S l)]
  | .sign c => [.str "sign", .str (S [c])]
/-- what a def gives back that reads one token -/
def TokRes (P : Addr) (H : Hp) (at_ : Nat) (o : Option (Tok × Nat)) (H' : Hp) (p : Addr) : Prop :=
  Kp P H H' ∧ H p = none ∧ (o = none → ∃ e : Int, H' p = some (.tup [.non, .int e])) ∧
    ∀ t k, o = some (t, k) → ∃ q, H q = none ∧ H' p = some (.tup [.ref q, .int ((at_ + k : Nat) : Int)]) ∧ H' q = some (.tup (tokV t))
def spTok (P : Addr) (ok : Nat → Prop) : Sp := fun vs H Q _ => ∃ (L : List Nat) (at_ c : Nat), vs = [.str (S L), .int (at_ : Nat)] ∧ L[at_]? = some c ∧ ok c ∧ L.length ≤ 5000 ∧ GxR.TabG H P ∧
  ∀ H' p, TokRes P H at_ (lexC c (L.drop (at_ + 1))) H' p → Q (.ref p) H'
theorem tok_none {P : Addr} {H : Hp} {at_ : Nat} {e : Int} {p : Addr} (t : GxR.TabG H P) (n : H p = none) : TokRes P H at_ none (upd H p (.tup [.non, .int e])) p :=
  ⟨Same.kp (Same.lst (Same.refl H) n) t, n, fun _ => ⟨e, upd_same⟩, fun _ _ z => by cases z⟩
theorem tok_some {P : Addr} {H : Hp} {at_ k : Nat} {t : Tok} {p q : Addr} (tb : GxR.TabG H P) (n : H q = none) (n2 : (upd H q (.tup (tokV t))) p = none) :
    TokRes P H at_ (some (t, k)) (upd (upd H q (.tup (tokV t))) p (.tup [.ref q, .int ((at_ + k : Nat) : Int)])) p := by
  have s1 : Same H (upd H q (.tup (tokV t))) := Same.lst (Same.refl H) n
  have np : H p = none := s1.free n2
  have ne : q ≠ p := ne_of_none (upd_same (H := H) (a := q) (o := .tup (tokV t))) n2
  refine ⟨Same.kp (Same.lst s1 np) tb, np, (fun z => by cases z), fun t' k' z => ?_⟩
  cases z
  exact ⟨q, n, upd_same, by rw [upd_ne ne, upd_same]⟩
theorem tok_kp {P : Addr} {H H1 H' : Hp} {at_ : Nat} {o : Option (Tok × Nat)} {p : Addr} (k : Kp P H H1) (tb : GxR.TabG H P) (r : TokRes P H1 at_ o H' p) : TokRes P H at_ o H' p := by
  obtain ⟨k1, n, h1, h2⟩ := r
  refine ⟨k.trans k1, k.free n tb, h1, fun t k' e => ?_⟩
  obtain ⟨q, n', e1, e2⟩ := h2 t k' e
  exact ⟨q, k.free n' tb, e1, e2⟩

section
variable {P : Program} {w : World} {K : PySem.W.Frag} {mg : Str → Option Value} {base : Heap}
theorem drop_at {L : List Nat} {i c : Nat} (h : L[i]? = some c) : L.drop i = c :: L.drop (i + 1) := by
  obtain ⟨h1, h2⟩ := List.getElem?_eq_some_iff.mp h
  rw [List.drop_eq_getElem_cons h1, h2]
theorem lt_at {L : List Nat} {i c : Nat} (h : L[i]? = some c) : i < L.length := (List.getElem?_eq_some_iff.mp h).1
theorem letS : (("abcdefghijklmnopqrstuvwxyz" : Str)) = S LET := (S_of _).symm
theorem digS : (("0123456789" : Str)) = S DIG := (S_of _).symm
theorem sgnS : (("(),;+-*<=" : Str)) = S SGN := (S_of _).symm
theorem cut_run {cs L : List Nat} {at_ : Nat} (h : at_ ≤ L.length) : cutS (S L) (some (at_ : Nat)) (some ((endRun cs L at_ : Nat) : Int)) = S ((L.drop at_).take (run cs (L.drop at_))) := by
  have := run_le cs (L.drop at_)
  rw [List.length_drop] at this
  rw [cut_S L at_ (endRun cs L at_) (by unfold endRun; omega) (by unfold endRun; omega)]
  unfold endRun
  rw [Nat.add_sub_cancel_left]

/-! ### word_at -/
theorem scWord : FnScope ["line", "at", "end"] ["line", "at"] (defScope sWordAt) := ⟨rfl, rfl, rfl, by decide +kernel, rfl, by decide +kernel, by decide +kernel⟩
theorem ok_word {f fe PT : Addr} {fd fde : FuncData} (F : Fun K "word_at" "word_at" sWordAt f fd) (T : Txt K mg) (FE : FnOk P w K mg base CX0 1 fe fde ["line", "at", "characters"] spEnd)
    (me : mg "end_of_run" = some (.ref fe)) (ke : PySem.W.keepIn K (.ref fe) = true) (be : Binds K fde ["line", "at", "characters"] []) : FnOk P w K mg base CX0 2 f fd ["line", "at"] (spTok PT (· ∈ LET)) := by
  have sc := scWord
  obtain ⟨tl, gl⟩ := T.LETTERS
  obtain ⟨tn, gn⟩ := T.NAME_MOST
  refine F.ok sc (fun vs H Q E h => ?_) (fun cdv A outer s H vs Q E hr h => ?_)
  · obtain ⟨L, a, c, rfl, _⟩ := h
    rfl
  · obtain ⟨L, a, c, rfl, hx, hc, hl, tb, q⟩ := h
    have lt := lt_at hx
    refine ⟨_, (pss_cons (ps_set (i := 2) sc.nd rfl (.inl rfl) (pe_call FE hr (by rfl) me ke be .nil pass0 (pa_cons (pv 0) (pa_cons (pv 1) (pa_cons (pe_gstr rfl gl) pa_nil)))))
(pss_cons (ps_if (pt_cmpR op_gt (pe_op op_sub (pv 2) (pv 1)) (pe_gint rfl gn) (nomark _))
(pss_one (ps_ret (pe_tup (pa_cons pe_non (pa_cons (pv 2) pa_nil))))) pss_nil)
(pss_one (ps_ret (pe_tup (pa_cons (pe_tup (pa_cons pe_str (pa_cons (pe_slice sl_str (pv 0) (po_some (pv 1)) (po_some (pv 2))) pa_nil))) (pa_cons (pv 2) pa_nil))))))), ?_⟩
    refine ⟨_, rfl, _, rfl, L, LET, a, by rw [letS]; rfl, Nat.le_of_lt lt, hl, ?_⟩
    have er : endRun LET L a = a + run LET (L.drop a) := rfl
    have ed := drop_at hx
    have elex : lexC c (L.drop (a + 1)) = (if run LET (L.drop a) ≤ 6 then some (.word ((L.drop a).take (run LET (L.drop a))), run LET (L.drop a)) else none) := by
      unfold lexC
      rw [if_pos hc, ← ed]
    refine ⟨_, rfl, _, rfl, _, _, rfl, rfl, _, _, rfl, rfl, _, rfl, ite2 (fun h => ?_) (fun h => ?_)⟩
    · have h1 : ¬ run LET (L.drop a) ≤ 6 := by
        have := of_decide_eq_true h
        rw [er] at this
        omega
      rw [if_neg h1] at elex
      rw [elex] at q
      exact ⟨_, rfl, two_le, fun p np => q _ p (tok_none tb np)⟩
    · have h1 : run LET (L.drop a) ≤ 6 := by
        have : ¬ ((6 : Int) < (endRun LET L a : Nat) - (a : Nat)) := fun z => h (decide_eq_true z)
        rw [er] at this
        omega
      rw [if_pos h1] at elex
      rw [elex] at q
      refine ⟨_, rfl, _, rfl, _, rfl, _, rfl, _, rfl, _, rfl, by rw [S_len]; exact smallL hl, two_le, fun u nu => ⟨_, rfl, two_le, fun p np => ?_⟩⟩
      rw [cut_run (Nat.le_of_lt lt)] at np ⊢
      rw [er]
      exact q _ p (tok_some tb nu np)

/-! ### number_at -/
theorem dig_range {c : Nat} (h : c ∈ DIG) : 48 ≤ c ∧ c ≤ 57 := by
  have : ∀ c ∈ DIG, 48 ≤ c ∧ c ≤ 57 := by decide
  exact this c h
theorem val_lt : ∀ (ds : List Nat) (acc : Nat), (∀ c ∈ ds, c ∈ DIG) → ds.foldl (fun acc c => acc * 10 + (c - 48)) acc < (acc + 1) * 10 ^ ds.length
  | [], acc, _ => by simp
  | c :: r, acc, h => by
    have hc := dig_range (h c List.mem_cons_self)
    have ih := val_lt r (acc * 10 + (c - 48)) (fun d hd => h d (List.mem_cons_of_mem _ hd))
    rw [List.foldl_cons, List.length_cons, Nat.pow_succ]
    refine Nat.lt_of_lt_of_le ih ?_
    rw [Nat.mul_comm (10 ^ r.length) 10, ← Nat.mul_assoc]
    exact Nat.mul_le_mul_right _ (by omega)
theorem val_small {ds : List Nat} (h : ∀ c ∈ ds, c ∈ DIG) (hl : ds.length ≤ 5) : val ds < 100000 := by
  have q := val_lt ds 0 h
  have e : 10 ^ ds.length ≤ 10 ^ 5 := Nat.pow_le_pow_right (by decide) hl
  unfold val
  omega
theorem log_small {n : Nat} (h : n < 100000) : ((n : Nat) : Int).natAbs.log2 < 1920 := by
  rw [Int.natAbs_natCast]
  by_cases h0 : n = 0
  · rw [h0]
    decide
  · have := (Nat.log2_lt (k := 1920) h0).mpr (Nat.lt_of_lt_of_le h (by
      have : 100000 ≤ 2 ^ 17 := by decide
      exact Nat.le_trans this (Nat.pow_le_pow_right (by decide) (by decide))))
    exact this
theorem scNum : FnScope ["line", "at", "end", "digits"] ["line", "at"] (defScope sNumberAt) := ⟨rfl, rfl, rfl, by decide +kernel, rfl, by decide +kernel, by decide +kernel⟩
theorem ok_num {f fe PT : Addr} {fd fde : FuncData} (F : Fun K "number_at" "number_at" sNumberAt f fd) (T : Txt K mg) (FE : FnOk P w K mg base CX0 1 fe fde ["line", "at", "characters"] spEnd)
    (me : mg "end_of_run" = some (.ref fe)) (ke : PySem.W.keepIn K (.ref fe) = true) (be : Binds K fde ["line", "at", "characters"] []) : FnOk P w K mg base CX0 2 f fd ["line", "at"] (spTok PT (· ∈ DIG)) := by
  have sc := scNum
  obtain ⟨tl, gl⟩ := T.DIGITS
  obtain ⟨tn, gn⟩ := T.NUMBER_MOST
  refine F.ok sc (fun vs H Q E h => ?_) (fun cdv A outer s H vs Q E hr h => ?_)
  · obtain ⟨L, a, c, rfl, _⟩ := h
    rfl
  · obtain ⟨L, a, c, rfl, hx, hc, hl, tb, q⟩ := h
    have lt := lt_at hx
    refine ⟨_, (pss_cons (ps_set (i := 2) sc.nd rfl (.inl rfl) (pe_call FE hr (by rfl) me ke be .nil pass0 (pa_cons (pv 0) (pa_cons (pv 1) (pa_cons (pe_gstr rfl gl) pa_nil)))))
(pss_cons (ps_set (i := 3) sc.nd rfl (.inl rfl) (pe_slice sl_str (pv 0) (po_some (pv 1)) (po_some (pv 2))))
(pss_cons (ps_if (PW.pt (pw_or (pt_cmpR op_gt (pe_callB call_len_str (by rfl) T.len (by decide +kernel) (pa_cons (pv 3) pa_nil)) (pe_callB call_len_str (by rfl) T.len (by decide +kernel) (pa_cons (pe_callTy call_str_int (by rfl) T.bstr (by decide +kernel) (pa_cons (pe_gint rfl gn) pa_nil)) pa_nil)) (nomark _)) (pw_or1 (pt_cmpR op_ne (pv 3) (pe_callTy call_str_int (by rfl) T.bstr (by decide +kernel) (pa_cons (pe_callTy call_int_str (by rfl) T.bint (by decide +kernel) (pa_cons (pv 3) pa_nil)) pa_nil)) (nomark _)))))
(pss_one (ps_ret (pe_tup (pa_cons pe_non (pa_cons (pv 2) pa_nil))))) pss_nil)
(pss_one (ps_ret (pe_tup (pa_cons (pe_tup (pa_cons pe_str (pa_cons (pe_callTy call_int_str (by rfl) T.bint (by decide +kernel) (pa_cons (pv 3) pa_nil)) pa_nil))) (pa_cons (pv 2) pa_nil)))))))), ?_⟩
    refine ⟨_, rfl, _, rfl, L, DIG, a, by rw [digS]; rfl, Nat.le_of_lt lt, hl, ?_⟩
    have er : endRun DIG L a = a + run DIG (L.drop a) := rfl
    have ed := drop_at hx
    have nl : c ∉ LET := let_dig hc
    obtain ⟨ds, eds⟩ : ∃ ds, ds = (L.drop a).take (run DIG (L.drop a)) := ⟨_, rfl⟩
    have dlen : ds.length = run DIG (L.drop a) := by rw [eds, List.length_take, Nat.min_eq_left (run_le _ _)]
    have dall : ∀ d ∈ ds, d ∈ DIG := fun d hd => by rw [eds] at hd; exact mem_run hd
    have dne : ds ≠ [] := fun z => by
      have h1 : 1 ≤ run DIG (L.drop a) := by rw [ed]; exact run_pos hc
      rw [z] at dlen
      simp at dlen
      omega
    have elex : lexC c (L.drop (a + 1)) = (if run DIG (L.drop a) ≤ 5 ∧ ds = numT (val ds) then some (.num (val ds), run DIG (L.drop a)) else none) := by
      unfold lexC
      rw [if_neg nl, if_pos hc, ← ed, ← eds]
    refine ⟨_, rfl, _, rfl, _, rfl, _, rfl, _, rfl, _, rfl, by rw [S_len]; exact smallL hl, ?_⟩
    rw [cut_run (Nat.le_of_lt lt), ← eds]
    have dsz : ds.length ≤ 5000 := by
      have := run_le DIG (L.drop a)
      rw [List.length_drop] at this
      omega
    refine ⟨_, rfl, _, rfl, by rw [S_len]; exact smallL dsz, _, rfl, by decide, _, rfl, by decide, _, _, rfl, rfl, _, rfl, ?_⟩
    have rdI : ds.length ≤ 5 → PySem.intText? (S ds) = some ((val ds : Nat) : Int) ∧ (S ds).length ≤ 640 := fun h => by
      refine ⟨PySem.intText_digits (x := S ds) (fun d hd => dig_range (dall d hd)) dne (by rw [S_len]; omega), by rw [S_len]; omega⟩
    have bad : ∀ e : Int, lexC c (L.drop (a + 1)) = none → ∀ p, H p = none → Q (.ref p) (upd H p (.tup [.non, .int e])) := fun e z p np => by
      rw [z] at q
      exact q _ p (tok_none tb np)
    refine ite2 (fun h => ?_) (fun h => ?_)
    · have h1 : ¬ run DIG (L.drop a) ≤ 5 := by
        have h := of_decide_eq_true h
        rw [S_len, dlen] at h
        have e5 : ((toString (99999 : Int) : Str)).length = 5 := by decide
        rw [e5] at h
        omega
      refine iteT ⟨_, rfl, two_le, fun p np => bad _ ?_ p np⟩
      rw [elex, if_neg (fun z => h1 z.1)]
    · have h1 : ds.length ≤ 5 := by
        have e5 : ((toString (99999 : Int) : Str)).length = 5 := by decide
        have : ¬ (((toString (99999 : Int) : Str)).length : Int) < (S ds).length := fun z => h (decide_eq_true z)
        rw [S_len, e5] at this
        omega
      obtain ⟨r1, r2⟩ := rdI h1
      refine ⟨_, rfl, _, rfl, _, _, rfl, r1, r2, _, rfl, log_small (val_small dall h1), rfl, _, rfl, ?_⟩
      have cmp : ∀ {A B : Prop}, (ds = numT (val ds) → B) → (ds ≠ numT (val ds) → A) → if (!decide (V.str (S ds) = V.str (toString ((val ds : Nat) : Int) : Str))) = true then A else B := fun hB hA => by
        by_cases z : ds = numT (val ds)
        · have e : V.str (S ds) = V.str (toString ((val ds : Nat) : Int) : Str) := by
            have : S ds = (Str.ofString (toString ((val ds : Nat) : Int))) := by
              rw [← S_of (Str.ofString (toString ((val ds : Nat) : Int)))]
              exact congrArg S z
            rw [this]
          rw [decide_eq_true e]
          exact iteF (hB z)
        · have e : V.str (S ds) ≠ V.str (toString ((val ds : Nat) : Int) : Str) := fun y => z (by
            injection y with y
            exact congrArg (fun z : Str => z.cps.toList) y)
          rw [decide_eq_false e]
          exact iteT (hA z)
      refine cmp (fun z => ?_) (fun z => ?_)
      · rw [if_pos ⟨by omega, z⟩] at elex
        rw [elex] at q
        refine ⟨_, rfl, _, _, rfl, r1, r2, two_le, fun u nu => ⟨_, rfl, two_le, fun p np => ?_⟩⟩
        rw [er]
        exact q _ p (tok_some tb nu np)
      · refine ⟨_, rfl, two_le, fun p np => bad _ ?_ p np⟩
        rw [elex, if_neg (fun y => z y.2)]
end
end K1

set_option maxRecDepth 100000
set_option maxHeartbeats 4000000
namespace K1
open PySem PySem.Spec PyProof.Rows L2 GD
section
variable {P : Program} {w : World} {K : PySem.W.Frag} {mg : Str → Option Value} {base : Heap}

/-- what the generator expressions' scopes say -/
def genScope (e : Expr) : Scope := match e with
  | .Call _ [.GeneratorExp _ _ sc _] _ _ => sc
  | _ => { kind := .function, names := [], isGenerator := false, isCoroutine := false }
def retE (s : Stmt) : Expr := match s with
  | .Return (some e) _ => e
  | _ => .Constant .none 0 ⟨0, 0, 0, 0⟩
def gsVal : Scope := genScope (retE ((defBody sIsValue).getD 3 (.Pass ⟨0, 0, 0, 0⟩)))
def gsNam : Scope := genScope (retE ((defBody sIsName).getD 1 (.Pass ⟨0, 0, 0, 0⟩)))
theorem gsVal_cell : ∀ y ∈ gsVal.names, y.2 ≠ .cell := by decide +kernel
theorem gsVal_free : ∀ y ∈ gsVal.names, y.2 ≠ .free := by decide +kernel
theorem gsNam_cell : ∀ y ∈ gsNam.names, y.2 ≠ .cell := by decide +kernel
theorem gsNam_free : ∀ y ∈ gsNam.names, y.2 ≠ .free := by decide +kernel

def strV (z : Str) : Bool := decide (z.length ≤ 20) && z.cps.toList.all mayC
def spValue (PV : Addr) : Sp := fun vs H Q _ => (∃ z : Str, vs = [.str z] ∧ z.length ≤ 5000 ∧ GxR.TabG H PV ∧ ∀ H', Kp PV H H' → Q (.bl (strV z)) H') ∨
  ∃ i : Int, vs = [.int i] ∧ Q (.bl (decide (-99999 ≤ i ∧ i ≤ 99999))) H
theorem scVal : FnScope ["value"] ["value"] (defScope sIsValue) := ⟨rfl, rfl, rfl, by decide +kernel, rfl, by decide +kernel, by decide +kernel⟩
theorem ok_value {f cV PV : Addr} {oc : Value} {od an : Option Addr} {osl : Array (Option Value)} {kV doc pm cdv ct : Value}
    (lk : K.lookup f = some ⟨oc, od, .func (PySem.W.fnOf "is_value" "is_value" (defArgs sIsValue) (defBody sIsValue) (defScope sIsValue) .none kV doc pm an cdv ct), osl⟩)
    (hcd : PySem.W.codeIn K cdv "is_value" = true) (ecd : cdv = .ref cV) (TB : GxR.TabB base mg cV PV) (T : Txt K mg) :
    FnOk P w K mg base CX0 2 f (PySem.W.fnOf "is_value" "is_value" (defArgs sIsValue) (defBody sIsValue) (defScope sIsValue) .none kV doc pm an cdv ct) ["value"] (spValue PV) := by
  have sc := scVal
  obtain ⟨t1, g1⟩ := T.CHARACTERS
  obtain ⟨t4, g4⟩ := T.NUMBER_MOST
  obtain ⟨t5, g5⟩ := T.STRING_MOST
  refine okC lk hcd sc (fun vs H Q E h => ?_) (fun A outer s H vs Q E hr h => ?_)
  · rcases h with ⟨z, rfl, _⟩ | ⟨i, rfl, _⟩ <;> rfl
  · have hdep : (A.deeper (envOfC "is_value" (defScope sIsValue) s.heap.objs.size f cdv)).depth + 1 < recursionLimit := by
      have := hr.dp
      omega
    refine ⟨_, (pss_cons (ps_if (pt_val (pe_callB call_isi (by rfl) T.isinstance (by decide +kernel) (pa_cons (pv 0) (pa_cons (pe_bltn (v := .ty "bool") (by rfl) T.bbool (by decide +kernel) rfl) pa_nil))))
(pss_one (ps_ret pe_bl)) pss_nil)
(pss_cons (ps_if (pt_val (pe_callB call_isi (by rfl) T.isinstance (by decide +kernel) (pa_cons (pv 0) (pa_cons (pe_bltn (v := .ty "int") (by rfl) T.bint (by decide +kernel) rfl) pa_nil))))
(pss_one (ps_ret (pe_chain op_le op_le (pe_un un_neg (pe_gint rfl g4)) (pv 0) (pe_gint rfl g4)))) pss_nil)
(pss_cons (ps_if (PW.pt (pw_or (pt_not (pt_val (pe_callB call_isi (by rfl) T.isinstance (by decide +kernel) (pa_cons (pv 0) (pa_cons (pe_bltn (v := .ty "str") (by rfl) T.bstr (by decide +kernel) rfl) pa_nil))))) (pw_or1 (pt_cmpR op_gt (pe_callB call_len_str (by rfl) T.len (by decide +kernel) (pa_cons (pv 0) pa_nil)) (pe_gint rfl g5) (nomark _)))))
(pss_one (ps_ret pe_bl)) pss_nil)
(pss_one (ps_ret (pe_allD (scope := gsVal) hr rfl T.all TB (by rw [← ecd]; rfl) ⟨rfl, rfl, gsVal_cell, rfl, rfl, fun y hy e => absurd e (gsVal_free y hy)⟩ (pv 0)
  (fun hB => elt_val (X := (cxOf CX0 P w K mg base _ _ _ f cdv A outer s H E).nox) rfl hB rfl rfl rfl g1) (fun _ => rfl))))))), ?_⟩
    rcases h with ⟨z, rfl, hz, tb, q⟩ | ⟨i, rfl, q⟩
    · refine ⟨_, rfl, _, _, _, _, false, rfl, .ty _, .base (.str _), kit_ty (by decide +kernel), _, rfl, iteF ?_⟩
      refine ⟨_, rfl, _, _, _, _, false, rfl, .ty _, .base (.str _), kit_ty (by decide +kernel), _, rfl, iteF ?_⟩
      refine ⟨_, rfl, _, _, _, _, true, rfl, .ty _, .base (.str _), kit_ty (by decide +kernel), _, rfl, iteF ?_⟩
      refine ⟨_, rfl, _, rfl, smallL hz, _, _, rfl, rfl, _, rfl, ite2 (fun h => ?_) (fun h => ?_)⟩
      · have h := of_decide_eq_true h
        have e : strV z = false := by
          unfold strV
          rw [decide_eq_false (by omega), Bool.false_and]
        have := q H (Kp.refl tb)
        rw [e] at this
        exact this
      · have h : ¬ ((20 : Int) < z.length) := fun y => h (decide_eq_true y)
        have e : strV z = z.cps.toList.all mayC := by
          unfold strV
          rw [decide_eq_true (by omega), Bool.true_and]
        refine ⟨_, rfl, z, rfl, tb, fun H2 t => ?_⟩
        have := q H2 (Kp.of t)
        rw [e] at this
        exact this
    · refine ⟨_, rfl, _, _, _, _, false, rfl, .ty _, .base (.int _), kit_ty (by decide +kernel), _, rfl, iteF ?_⟩
      refine ⟨_, rfl, _, _, _, _, true, rfl, .ty _, .base (.int _), kit_ty (by decide +kernel), _, rfl, iteT ?_⟩
      refine ⟨_, rfl, _, rfl, _, _, rfl, rfl, _, rfl, ?_⟩
      refine ite2 (fun h => ?_) (fun h => ?_)
      · have h : (-99999 : Int) ≤ i := of_decide_eq_true h
        refine ⟨_, _, rfl, rfl, ?_⟩
        have e : decide (-99999 ≤ i ∧ i ≤ 99999) = decide (i ≤ 99999) := by
          by_cases h2 : i ≤ 99999
          · rw [decide_eq_true h2, decide_eq_true ⟨h, h2⟩]
          · rw [decide_eq_false h2, decide_eq_false fun z => h2 z.2]
        rw [e] at q
        exact q
      · have h : ¬ (-99999 : Int) ≤ i := fun z => h (decide_eq_true z)
        have e : decide (-99999 ≤ i ∧ i ≤ 99999) = false := decide_eq_false fun z => h z.1
        rw [e] at q
        exact q

/-! ### is_name -/
def nameB (z : Str) : Bool := decide (1 ≤ z.length ∧ z.length ≤ 6) && !(inV (.str z) (kw13.map V.str)) && z.cps.toList.all fun c => decide (c ∈ LET)
def spName (PN : Addr) : Sp := fun vs H Q _ => ∃ z : Str, vs = [.str z] ∧ z.length ≤ 5000 ∧ GxR.TabG H PN ∧ ∀ H', Kp PN H H' → Q (.bl (nameB z)) H'
theorem scNam : FnScope ["text"] ["text"] (defScope sIsName) := ⟨rfl, rfl, rfl, by decide +kernel, rfl, by decide +kernel, by decide +kernel⟩
theorem ok_name {f cN PN : Addr} {oc : Value} {od an : Option Addr} {osl : Array (Option Value)} {kV doc pm cdv ct : Value}
    (lk : K.lookup f = some ⟨oc, od, .func (PySem.W.fnOf "is_name" "is_name" (defArgs sIsName) (defBody sIsName) (defScope sIsName) .none kV doc pm an cdv ct), osl⟩)
    (hcd : PySem.W.codeIn K cdv "is_name" = true) (ecd : cdv = .ref cN) (TB : GxR.TabB base mg cN PN) (T : Txt K mg) :
    FnOk P w K mg base CX0 1 f (PySem.W.fnOf "is_name" "is_name" (defArgs sIsName) (defBody sIsName) (defScope sIsName) .none kV doc pm an cdv ct) ["text"] (spName PN) := by
  have sc := scNam
  obtain ⟨t1, g1⟩ := T.LETTERS
  obtain ⟨t4, g4⟩ := T.NAME_MOST
  obtain ⟨ra, gr, hres⟩ := T.RESERVED
  refine okC lk hcd sc (fun vs H Q E h => ?_) (fun A outer s H vs Q E hr h => ?_)
  · obtain ⟨z, rfl, _⟩ := h
    rfl
  · obtain ⟨z, rfl, hz, tb, q⟩ := h
    refine ⟨_, (pss_cons (ps_if (PW.pt (pw_or (pt_not (pt_chain op_le op_le pe_int (pe_callB call_len_str (by rfl) T.len (by decide +kernel) (pa_cons (pv 0) pa_nil)) (pe_gint rfl g4))) (pw_or1 (pt_cmpR op_in_seq (pv 0) (pe_glob (v := .ref ra) rfl gr rfl) rfl))))
(pss_one (ps_ret pe_bl)) pss_nil)
(pss_one (ps_ret (pe_allD (scope := gsNam) hr rfl T.all TB (by rw [← ecd]; rfl) ⟨rfl, rfl, gsNam_cell, rfl, rfl, fun y hy e => absurd e (gsNam_free y hy)⟩ (pv 0)
  (fun hB => elt_inSigns (X := (cxOf CX0 P w K mg base _ _ _ f cdv A outer s H E).nox) rfl hB rfl rfl rfl g1) (fun _ => rfl))))), ?_⟩
    have bad : nameB z = false → Q (.bl false) H := fun e => by
      have := q H (Kp.refl tb)
      rw [e] at this
      exact this
    have flatR : (kw13.map V.str).all flatV = true := rfl
    refine ⟨_, rfl, _, rfl, smallL hz, _, _, rfl, rfl, _, rfl, ?_⟩
    refine ite2 (fun h => ?_) (fun h => ?_)
    · have h : (1 : Int) ≤ z.length := of_decide_eq_true h
      refine ⟨_, _, rfl, rfl, _, rfl, ?_⟩
      by_cases h2 : ((z.length : Nat) : Int) ≤ 6
      · refine iteNS h2 ?_
        refine ⟨_, rfl, ra, _, rfl, .inr (hres _), rfl, flatR, _, rfl, ite2 (fun h3 => ?_) (fun h3 => ?_)⟩
        · refine bad ?_
          unfold nameB
          have h3 : inV (.str z) (kw13.map V.str) = true := h3
          rw [h3]
          simp
        · have h3 : inV (.str z) (kw13.map V.str) = false := by
            cases e : inV (.str z) (kw13.map V.str) with
            | false => rfl
            | true => exact absurd e h3
          have e : nameB z = z.cps.toList.all fun c => decide (c ∈ LET) := by
            unfold nameB
            rw [h3, decide_eq_true ⟨by omega, by omega⟩]
            rfl
          refine ⟨_, rfl, z, rfl, tb, fun H2 t => ?_⟩
          have := q H2 (Kp.of t)
          rw [e] at this
          exact this
      · show if (!decide (((z.length : Nat) : Int) ≤ 6)) = true then _ else _
        rw [decide_eq_false h2]
        refine iteT (bad ?_)
        unfold nameB
        rw [decide_eq_false (fun z => h2 (by omega))]
        rfl
    · have h : ¬ (1 : Int) ≤ z.length := fun z => h (decide_eq_true z)
      refine ⟨_, rfl, iteT (bad ?_)⟩
      unfold nameB
      rw [decide_eq_false (fun z => h (by omega))]
      rfl
end
end K1

set_option maxRecDepth 100000
set_option maxHeartbeats 4000000
namespace K1
open PySem PySem.Spec PyProof.Rows L2 GD
section
variable {P : Program} {w : World} {K : PySem.W.Frag} {mg : Str → Option Value} {base : Heap}

theorem may_eq : mayC = mayB := rfl
theorem toQ_none {r : List Nat} (h : 34 ∉ r) : toQ r = r.length := by
  unfold toQ
  have e := List.takeWhile_append_of_pos (p := fun d => d != 34) (l₁ := r) (l₂ := []) (fun c hc => bne_iff_ne.mpr fun z => h (z ▸ hc))
  rw [List.append_nil] at e
  rw [e]
  simp
theorem toQ_some {r : List Nat} {k : Nat} (h : r[k]? = some 34) (n : 34 ∉ r.take k) : toQ r = k := by
  have lt : k < r.length := (List.getElem?_eq_some_iff.mp h).1
  have e : r = r.take k ++ (34 :: r.drop (k + 1)) := by
    rw [← drop_at h, List.take_append_drop]
  unfold toQ
  have e2 := List.takeWhile_append_of_pos (p := fun d => d != 34) (l₁ := r.take k) (l₂ := 34 :: r.drop (k + 1)) (fun c hc => bne_iff_ne.mpr fun z => n (z ▸ hc))
  rw [← e] at e2
  rw [e2, List.takeWhile_cons, if_neg (by decide), List.append_nil, List.length_take]
  omega
theorem q34c : ("\"" : Str) = (⟨#[34]⟩ : Str) := rfl
theorem scStr : FnScope ["line", "at", "end"] ["line", "at"] (defScope sStringAt) := ⟨rfl, rfl, rfl, by decide +kernel, rfl, by decide +kernel, by decide +kernel⟩
theorem ok_str {f fv PT : Addr} {fd fdv : FuncData} (F : Fun K "string_at" "string_at" sStringAt f fd) (T : Txt K mg) (FV : FnOk P w K mg base CX0 2 fv fdv ["value"] (spValue PT))
    (mv : mg "is_value" = some (.ref fv)) (kv : PySem.W.keepIn K (.ref fv) = true) (bv : Binds K fdv ["value"] []) : FnOk P w K mg base CX0 3 f fd ["line", "at"] (spTok PT (· = 34)) := by
  have sc := scStr
  refine F.ok sc (fun vs H Q E h => ?_) (fun cdv A outer s H vs Q E hr h => ?_)
  · obtain ⟨L, a, c, rfl, _⟩ := h
    rfl
  · obtain ⟨L, a, c, rfl, hx, rfl, hl, tb, q⟩ := h
    have lt := lt_at hx
    refine ⟨_, (pss_cons (ps_set (i := 2) sc.nd rfl (.inl rfl) (pe_bm PySem.F.plainAttrs_str PySem.F.slot_str_find PySem.F.type_str_find mt_find3 (pv 0) (pa_cons pe_str (pa_cons (pe_op op_add (pv 1) pe_int) pa_nil))))
(pss_cons (ps_if (PW.pt (pw_or (pt_cmpR op_lt (pv 2) pe_int (nomark _)) (pw_or1 (pt_not (pt_val (pe_call FV hr (by rfl) mv kv bv .nil pass0 (pa_cons (pe_slice sl_str (pv 0) (po_some (pe_op op_add (pv 1) pe_int)) (po_some (pv 2))) pa_nil)))))))
(pss_one (ps_ret (pe_tup (pa_cons pe_non (pa_cons (pv 2) pa_nil))))) pss_nil)
(pss_one (ps_ret (pe_tup (pa_cons (pe_tup (pa_cons pe_str (pa_cons (pe_slice sl_str (pv 0) (po_some (pe_op op_add (pv 1) pe_int)) (po_some (pv 2))) pa_nil))) (pa_cons (pe_op op_add (pv 2) pe_int) pa_nil))))))), ?_⟩
    obtain ⟨r, er⟩ : ∃ r, r = L.drop (a + 1) := ⟨_, rfl⟩
    have elex : lexC 34 r = (if toQ r < r.length ∧ toQ r ≤ 20 ∧ (r.take (toQ r)).all mayB = true then some (.str (r.take (toQ r)), toQ r + 2) else none) := by
      unfold lexC
      rw [if_neg (by decide), if_neg (by decide), if_pos rfl]
    rw [← er] at q
    have e1 : (((a : Nat) : Int) + 1) = ((a + 1 : Nat) : Int) := rfl
    have bad : ∀ (H1 : Hp) (e : Int), Kp PT H H1 → lexC 34 r = none → ∀ p, H1 p = none → Q (.ref p) (upd H1 p (.tup [.non, .int e])) := fun H1 e k z p np => by
      rw [z] at q
      exact q _ p (tok_kp k tb (tok_none k.1 np))
    refine ⟨_, rfl, rfl, _, rfl, _, _, rfl, rfl, S L, ⟨#[34]⟩, ((a + 1 : Nat) : Int), rfl, rfl, ?_⟩
    rcases find_one (S L) 34 (a + 1) (by rw [S_len]; omega) with ⟨f1, f2⟩ | ⟨k, f1, f2, f3⟩
    · rw [S_toList, ← er] at f2
      rw [f1]
      refine ⟨_, rfl, _, _, rfl, rfl, _, rfl, ?_⟩
      refine iteT ⟨_, rfl, two_le, fun p np => bad H _ (Kp.refl tb) ?_ p np⟩
      rw [elex, toQ_none f2, if_neg (fun z => absurd z.1 (Nat.lt_irrefl _))]
    · rw [S_toList, ← er] at f2 f3
      rw [f1]
      have eq := toQ_some f2 f3
      have kl : k < r.length := (List.getElem?_eq_some_iff.mp f2).1
      have rl : r.length = L.length - (a + 1) := by rw [er, List.length_drop]
      have ecut : cutS (S L) (some (((a : Nat) : Int) + 1)) (some ((a + 1 + k : Nat) : Int)) = S (r.take k) := by
        rw [e1, cut_S L (a + 1) (a + 1 + k) (by omega) (by omega), ← er, Nat.add_sub_cancel_left]
      refine ⟨_, rfl, _, _, rfl, rfl, _, rfl, ?_⟩
      have n0 : ¬ (((a + 1 + k : Nat) : Int) < 0) := by omega
      show if decide (((a + 1 + k : Nat) : Int) < 0) = true then _ else _
      rw [decide_eq_false n0]
      refine iteF ⟨_, rfl, _, rfl, _, _, rfl, rfl, _, rfl, _, rfl, _, rfl, S L, rfl, by rw [S_len]; exact smallL hl, ?_⟩
      rw [ecut]
      have tl : (r.take k).length = k := by rw [List.length_take]; omega
      refine .inl ⟨S (r.take k), rfl, by rw [S_len]; omega, tb, fun H1 k1 => ?_⟩
      have ev : strV (S (r.take k)) = (decide (k ≤ 20) && (r.take k).all mayB) := by
        unfold strV
        rw [S_len, tl]
        rfl
      refine ⟨_, rfl, ?_⟩
      rw [ev]
      rw [eq] at elex
      cases hb : (decide (k ≤ 20) && (r.take k).all mayB) with
      | false =>
        refine iteT ⟨_, rfl, two_le, fun p np => bad H1 _ k1 ?_ p np⟩
        rw [elex, if_neg (fun z => ?_)]
        rw [decide_eq_true z.2.1, z.2.2] at hb
        cases hb
      | true =>
        rw [Bool.and_eq_true] at hb
        have hk := of_decide_eq_true hb.1
        rw [if_pos ⟨kl, hk, hb.2⟩] at elex
        rw [elex] at q
        refine iteF ⟨_, rfl, _, rfl, _, _, rfl, rfl, _, rfl, _, rfl, _, rfl, S L, rfl, by rw [S_len]; exact smallL hl, ?_⟩
        rw [ecut]
        refine ⟨two_le, fun u nu => ⟨_, rfl, _, _, rfl, rfl, two_le, fun p np => ?_⟩⟩
        have en : (((a + 1 + k : Nat) : Int) + 1) = ((a + (k + 2) : Nat) : Int) := by omega
        show Q (.ref p) (upd _ p (.tup [.ref u, .int (((a + 1 + k : Nat) : Int) + 1)]))
        rw [en]
        exact q _ p (tok_kp k1 tb (tok_some k1.1 nu np))
end
end K1

set_option maxRecDepth 100000
set_option maxHeartbeats 4000000
namespace K1
open PySem PySem.Spec PyProof.Rows L2 GD
section
variable {P : Program} {w : World} {K : PySem.W.Frag} {mg : Str → Option Value} {base : Heap}

/-! ### token_at -/
theorem scTokA : FnScope ["line", "at", "first"] ["line", "at"] (defScope sTokenAt) := ⟨rfl, rfl, rfl, by decide +kernel, rfl, by decide +kernel, by decide +kernel⟩
theorem ok_tokat {f f1 f2 f3 PT : Addr} {fd fd1 fd2 fd3 : FuncData} (F : Fun K "token_at" "token_at" sTokenAt f fd) (T : Txt K mg)
    (F1 : FnOk P w K mg base CX0 3 f1 fd1 ["line", "at"] (spTok PT (· ∈ LET))) (m1 : mg "word_at" = some (.ref f1)) (k1 : PySem.W.keepIn K (.ref f1) = true) (b1 : Binds K fd1 ["line", "at"] [])
    (F2 : FnOk P w K mg base CX0 3 f2 fd2 ["line", "at"] (spTok PT (· ∈ DIG))) (m2 : mg "number_at" = some (.ref f2)) (k2 : PySem.W.keepIn K (.ref f2) = true) (b2 : Binds K fd2 ["line", "at"] [])
    (F3 : FnOk P w K mg base CX0 3 f3 fd3 ["line", "at"] (spTok PT (· = 34))) (m3 : mg "string_at" = some (.ref f3)) (k3 : PySem.W.keepIn K (.ref f3) = true) (b3 : Binds K fd3 ["line", "at"] []) :
    FnOk P w K mg base CX0 4 f fd ["line", "at"] (spTok PT fun _ => True) := by
  have sc := scTokA
  obtain ⟨t1, g1⟩ := T.LETTERS
  obtain ⟨t2, g2⟩ := T.DIGITS
  obtain ⟨t3, g3⟩ := T.SIGNS
  refine F.ok sc (fun vs H Q E h => ?_) (fun cdv A outer s H vs Q E hr h => ?_)
  · obtain ⟨L, a, c, rfl, _⟩ := h
    rfl
  · obtain ⟨L, a, c, rfl, hx, _, hl, tb, q⟩ := h
    have lt := lt_at hx
    refine ⟨_, (pss_cons (ps_set (i := 2) sc.nd rfl (.inl rfl) (pe_item_str (pv 0) (pv 1) (fun _ _ => rfl)))
(pss_cons (ps_if (pt_cmpR op_in_sign (pv 2) (pe_gstr rfl g1) rfl)
(pss_one (ps_ret (pe_call F1 hr (by rfl) m1 k1 b1 .nil pass0 (pa_cons (pv 0) (pa_cons (pv 1) pa_nil))))) pss_nil)
(pss_cons (ps_if (pt_cmpR op_in_sign (pv 2) (pe_gstr rfl g2) rfl)
(pss_one (ps_ret (pe_call F2 hr (by rfl) m2 k2 b2 .nil pass0 (pa_cons (pv 0) (pa_cons (pv 1) pa_nil))))) pss_nil)
(pss_cons (ps_if (pt_cmpR op_eq (pv 2) pe_str (nomark _))
(pss_one (ps_ret (pe_call F3 hr (by rfl) m3 k3 b3 .nil pass0 (pa_cons (pv 0) (pa_cons (pv 1) pa_nil))))) pss_nil)
(pss_cons (ps_if (pt_cmpR op_in_sign (pv 2) (pe_gstr rfl g3) rfl)
(pss_one (ps_ret (pe_tup (pa_cons (pe_tup (pa_cons pe_str (pa_cons (pv 2) pa_nil))) (pa_cons (pe_op op_add (pv 1) pe_int) pa_nil))))) pss_nil)
(pss_one (ps_ret (pe_tup (pa_cons pe_non (pa_cons (pv 1) pa_nil)))))))))), ?_⟩
    refine ⟨_, rfl, _, rfl, _, _, c, rfl, rfl, by omega, in63 hl lt, in_S lt, item_S hx, ?_⟩
    refine ⟨_, rfl, c, _, rfl, rfl, _, rfl, ite2 (fun h => ?_) (fun h => ?_)⟩
    · exact ⟨_, rfl, _, rfl, L, a, c, rfl, hx, of_decide_eq_true h, hl, tb, q⟩
    have n1 : c ∉ LET := fun z => h (decide_eq_true z)
    refine ⟨_, rfl, c, _, rfl, rfl, _, rfl, ite2 (fun h => ?_) (fun h => ?_)⟩
    · exact ⟨_, rfl, _, rfl, L, a, c, rfl, hx, of_decide_eq_true h, hl, tb, q⟩
    have n2 : c ∉ DIG := fun z => h (decide_eq_true z)
    refine ⟨_, rfl, rfl, _, rfl, ite2 (fun h => ?_) (fun h => ?_)⟩
    · have e : c = 34 := by
        have h := of_decide_eq_true h
        injection h with h
        have h2 : [c] = [34] := congrArg (fun z : Str => z.cps.toList) h
        exact (List.cons.inj h2).1
      exact ⟨_, rfl, _, rfl, L, a, c, rfl, hx, e, hl, tb, q⟩
    have n3 : c ≠ 34 := fun z => h (decide_eq_true (by rw [z]; rfl))
    have elex : lexC c (L.drop (a + 1)) = (if c ∈ SGN then some (.sign c, 1) else none) := by
      unfold lexC
      rw [if_neg n1, if_neg n2, if_neg n3]
    refine ⟨_, rfl, c, _, rfl, rfl, _, rfl, ite2 (fun h => ?_) (fun h => ?_)⟩
    · have hs : c ∈ SGN := of_decide_eq_true h
      rw [if_pos hs] at elex
      rw [elex] at q
      exact ⟨_, rfl, two_le, fun u nu => ⟨_, rfl, _, _, rfl, rfl, two_le, fun p np => q _ p (tok_some (t := .sign c) (k := 1) tb nu np)⟩⟩
    · have hs : c ∉ SGN := fun z => h (decide_eq_true z)
      rw [if_neg hs] at elex
      rw [elex] at q
      exact ⟨_, rfl, two_le, fun p np => q _ p (tok_none tb np)⟩

theorem lexC_le {c : Nat} {r : List Nat} {t : Tok} {k : Nat} (h : lexC c r = some (t, k)) : k ≤ r.length + 1 := by
  unfold lexC at h
  by_cases h1 : c ∈ LET
  · rw [if_pos h1] at h
    split at h
    · cases h
      exact run_le _ _
    · cases h
  rw [if_neg h1] at h
  by_cases h2 : c ∈ DIG
  · rw [if_pos h2] at h
    split at h
    · cases h
      exact run_le _ _
    · cases h
  rw [if_neg h2] at h
  by_cases h3 : c = 34
  · rw [if_pos h3] at h
    split at h
    · rename_i hk
      cases h
      omega
    · cases h
  rw [if_neg h3] at h
  split at h
  · cases h
    omega
  · cases h
/-! ### split -/
def TokL (H : Hp) : List V → List Tok → Prop := Paired fun v t => ∃ q, v = .ref q ∧ H q = some (.tup (tokV t))
theorem TokL.imp {H H' : Hp} {vs : List V} {ts : List Tok} (h : TokL H vs ts) (k : ∀ q t, H q = some (.tup (tokV t)) → H' q = some (.tup (tokV t))) : TokL H' vs ts :=
  Paired.mapP h fun v t ⟨q, e, h⟩ => ⟨q, e, k q t h⟩
theorem tup_ne_tab {P q : Addr} {H : Hp} {xs : List V} (t : GxR.TabG H P) (h : H q = some (.tup xs)) : q ≠ P := fun e => by
  obtain ⟨ps, h2, _⟩ := t
  rw [e, h2] at h
  cases h
theorem TokL.kp {P : Addr} {H H' : Hp} {vs : List V} {ts : List Tok} (h : TokL H vs ts) (t : GxR.TabG H P) (k : Kp P H H') : TokL H' vs ts :=
  h.imp fun q u e => k.2 q _ (tup_ne_tab t e) e
theorem Paired.snoc {α β : Type} {R : α → β → Prop} : ∀ {l : List α} {m : List β} {a : α} {b : β}, Paired R l m → R a b → Paired R (l ++ [a]) (m ++ [b])
  | _, _, _, _, .nil, r => .cons r .nil
  | _, _, _, _, .cons x t, r => .cons x (Paired.snoc t r)
def spSplit (PT : Addr) : Sp := fun vs H Q _ => ∃ (L : List Nat) (o : Option (List Tok)), vs = [.str (S L)] ∧ L.length ≤ 5000 ∧ GxR.TabG H PT ∧ Lex L o ∧
  ∀ H', Kp PT H H' → (o = none → Q .non H') ∧ ∀ ts D vs, o = some ts → H D = none → H' D = some (.lst vs) → TokL H' vs ts → Q (.ref D) H'
theorem scSpl : FnScope ["line", "tokens", "at", "token"] ["line"] (defScope sSplit) := ⟨rfl, rfl, rfl, by decide +kernel, rfl, by decide +kernel, by decide +kernel⟩
theorem ok_split {f f1 PT : Addr} {fd fd1 : FuncData} (F : Fun K "split" "split" sSplit f fd) (T : Txt K mg)
    (F1 : FnOk P w K mg base CX0 4 f1 fd1 ["line", "at"] (spTok PT fun _ => True)) (m1 : mg "token_at" = some (.ref f1)) (k1 : PySem.W.keepIn K (.ref f1) = true) (b1 : Binds K fd1 ["line", "at"] []) :
    FnOk P w K mg base CX0 5 f fd ["line"] (spSplit PT) := by
  have sc := scSpl
  refine F.ok sc (fun vs H Q E h => ?_) (fun cdv A outer s H vs Q E hr h => ?_)
  · obtain ⟨L, o, rfl, _⟩ := h
    rfl
  · obtain ⟨L, o, rfl, hl, tb, hx, q⟩ := h
    refine ⟨_, (pss_cons (ps_set (i := 1) sc.nd rfl (.inl rfl) (pe_lst pa_nil))
(pss_cons (ps_set (i := 2) sc.nd rfl (.inl rfl) pe_int)
(pss_cons (ps_while PassesOwn.never (pt_cmpR op_lt (pv 2) (pe_callB call_len_str (by rfl) T.len (by decide +kernel) (pa_cons (pv 0) pa_nil)) (nomark _))
(pss_cons (ps_if (pt_cmpR op_eq (pe_item_str (pv 0) (pv 2) (fun _ _ => rfl)) pe_str (nomark _))
(pss_cons (ps_aug (i := 2) sc.nd rfl (.inl rfl) pe_int ip_add)
(pss_one ps_continue)) pss_nil)
(pss_cons (ps_asg (pe_call F1 hr (by rfl) m1 k1 b1 .nil pass0 (pa_cons (pv 0) (pa_cons (pv 2) pa_nil))) (pg_tup rfl (pgs_cons (pg_name (i := 3) sc.nd rfl (.inl rfl)) (pgs_cons (pg_name (i := 2) sc.nd rfl (.inl rfl)) pgs_nil))))
(pss_cons (ps_if (pt_cmpR op_isN (pv 3) pe_non (nomark _))
(pss_one (ps_ret pe_non)) pss_nil)
(pss_one (ps_expr (pe_bm PySem.F.plainAttrs_list PySem.F.slot_list_append PySem.F.type_list_append mt_append (pv 1) (pa_cons (pv 3) pa_nil))))))))
(pss_one (ps_ret (pv 1)))))), ?_⟩
    refine ⟨Nat.zero_le _, fun D hD => ?_⟩
    have kD : Kp PT H (upd H D (.lst [])) := Same.kp (Same.lst (Same.refl H) hD) tb
    have nDP : D ≠ PT := TabG.ne tb hD
    refine ⟨fun m σ H' => ∃ (e : Nat) (ts : List Tok) (vs : List V) (y3 : Option V) (o' : Option (List Tok)), σ = [some (.str (S L)), some (.ref D), some (.int (e : Nat)), y3] ∧ Kp PT H H' ∧ H' D = some (.lst vs) ∧ TokL H' vs ts ∧
        e ≤ L.length ∧ m = L.length - e ∧ Lex (L.drop e) o' ∧ o = o'.map (ts ++ ·) ∧ ts.length ≤ e ∧ vs.length = ts.length, ⟨_, 0, [], [], none, o, rfl, kD, upd_same, .nil, Nat.zero_le _, rfl, hx, by cases o <;> rfl, Nat.le_refl _, rfl⟩, ?_⟩
    rintro m σ H' ⟨e, ts, vs, y3, o', rfl, kp, eD, tl, he, rfl, hx', eo, lts, lvs⟩
    refine ⟨_, rfl, _, rfl, _, rfl, by rw [S_len]; exact smallL hl, _, _, rfl, rfl, _, rfl, ite2 (fun h => ?_) (fun h => ?_)⟩
    · have lt : e < L.length := by
        have := of_decide_eq_true h
        rw [S_len] at this
        omega
      obtain ⟨c, hc⟩ : ∃ c, L[e]? = some c := ⟨_, List.getElem?_eq_getElem lt⟩
      rw [drop_at hc] at hx'
      refine ⟨fun σ' H2 => ∃ (e2 : Nat) (ts : List Tok) (vs : List V) (y3 : Option V) (o' : Option (List Tok)), σ' = [some (.str (S L)), some (.ref D), some (.int (e2 : Nat)), y3] ∧ Kp PT H H2 ∧ H2 D = some (.lst vs) ∧ TokL H2 vs ts ∧
        e < e2 ∧ e2 ≤ L.length ∧ Lex (L.drop e2) o' ∧ o = o'.map (ts ++ ·) ∧ ts.length ≤ e2 ∧ vs.length = ts.length, fun σ' H2 hN => ?_, ?_⟩
      · obtain ⟨e2, ts, vs, y3, o', h1, h2, h3, h4, h5, h6, h7, h8, h9, h10⟩ := hN
        exact ⟨L.length - e2, by omega, e2, ts, vs, y3, o', h1, h2, h3, h4, h6, rfl, h7, h8, h9, h10⟩
      refine ⟨_, rfl, _, rfl, _, _, c, rfl, rfl, by omega, in63 hl lt, in_S lt, item_S hc, rfl, _, rfl, ite2 (fun h => ?_) (fun h => ?_)⟩
      · have ec : c = 32 := by
          have h := of_decide_eq_true h
          injection h with h
          have h2 : [c] = [32] := congrArg (fun z : Str => z.cps.toList) h
          exact (List.cons.inj h2).1
        subst ec
        have hr' : Lex (L.drop (e + 1)) o' := by
          cases hx' with
          | sp h => exact h
          | bad n _ => exact absurd rfl n
          | tok n _ _ => exact absurd rfl n
        exact ⟨_, rfl, _, _, rfl, rfl, e + 1, ts, vs, y3, o', rfl, kp, eD, tl, Nat.lt_succ_self _, lt, hr', eo, by omega, lvs⟩
      · have nc : c ≠ 32 := fun z => h (decide_eq_true (by rw [z]; rfl))
        refine ⟨_, rfl, _, rfl, L, e, c, rfl, hc, trivial, hl, kp.1, fun H2 p r => ?_⟩
        obtain ⟨k2, np, r1, r2⟩ := r
        cases hlx : lexC c (L.drop (e + 1)) with
        | none =>
          obtain ⟨e9, h9⟩ := r1 hlx
          have en : o = none := by
            rw [eo]
            cases hx' with
            | sp h => exact absurd rfl nc
            | bad _ _ => rfl
            | tok _ h9 _ =>
              rw [hlx] at h9
              cases h9
          refine ⟨p, _, rfl, .inl (.inl h9), rfl, _, _, rfl, _, _, rfl, rfl, ?_⟩
          refine ⟨_, rfl, rfl, _, rfl, iteT ?_⟩
          exact (q H2 (kp.trans k2)).1 en
        | some tk =>
          obtain ⟨t, k⟩ := tk
          obtain ⟨u, nu, h9, h10⟩ := r2 t k hlx
          obtain ⟨o2, hx2, eo2⟩ : ∃ o2, Lex ((c :: L.drop (e + 1)).drop k) o2 ∧ o' = o2.map (t :: ·) := by
            cases hx' with
            | sp h => exact absurd rfl nc
            | bad _ h11 =>
              rw [hlx] at h11
              cases h11
            | tok _ h11 h12 =>
              rw [hlx] at h11
              cases h11
              exact ⟨_, h12, rfl⟩
          have kpos := lexC_pos hlx
          refine ⟨p, _, rfl, .inl (.inl h9), rfl, _, _, rfl, _, _, rfl, rfl, ?_⟩
          refine ⟨_, rfl, rfl, _, rfl, iteF ?_⟩
          have eD2 : H2 D = some (.lst vs) := k2.2 D _ nDP eD
          refine ⟨_, rfl, .inl ⟨rfl, _, SqL.of eD2⟩, _, rfl, D, _, _, rfl, rfl, eD2, ?_, ?_⟩
          · rw [lvs]
            exact Nat.lt_of_le_of_lt (Nat.le_trans (Nat.le_trans lts he) hl) (by decide)
          · have kle := lexC_le hlx
            have rl : (L.drop (e + 1)).length = L.length - (e + 1) := List.length_drop
            have ed : (c :: L.drop (e + 1)).drop k = L.drop (e + k) := by
              rw [← drop_at hc, List.drop_drop]
            rw [ed] at hx2
            refine ⟨e + k, ts ++ [t], vs ++ [.ref u], _, o2, rfl, ⟨?_, fun b ob n hb => ?_⟩, upd_same, ?_, by omega, by omega, hx2, ?_, ?_, ?_⟩
            · obtain ⟨ps, h1, h2⟩ := k2.1
              exact ⟨ps, by rw [upd_ne nDP.symm]; exact h1, h2⟩
            · rw [upd_ne (ne_of_none hb hD)]
              exact (kp.trans k2).2 b ob n hb
            · refine Paired.snoc ((tl.kp kp.1 k2).imp fun q t hq => ?_) ⟨u, rfl, ?_⟩
              · rw [upd_ne (ne_of hq eD2 (fun z => by cases z))]
                exact hq
              · rw [upd_ne (ne_of h10 eD2 (fun z => by cases z))]
                exact h10
            · rw [eo, eo2]
              cases o2 with
              | none => rfl
              | some x =>
                show some (ts ++ (t :: x)) = some ((ts ++ [t]) ++ x)
                rw [List.append_assoc]
                rfl
            · rw [List.length_append, List.length_singleton]
              omega
            · rw [List.length_append, List.length_append, lvs]
              rfl
    · have ge : e = L.length := by
        have : ¬ ((e : Int) < (S L).length) := fun z => h (decide_eq_true z)
        rw [S_len] at this
        omega
      rw [ge, List.drop_length] at hx'
      have eo' : o = some ts := by
        cases hx'
        rw [eo]
        show some (ts ++ []) = some ts
        rw [List.append_nil]
      exact ⟨_, rfl, (q H' kp).2 ts D vs eo' hD eD tl⟩
end
end K1

set_option maxRecDepth 100000
set_option maxHeartbeats 4000000
namespace K1
open PySem PySem.Spec PyProof.Rows L2 GD

/-- a written text, so and so often -/
theorem op_rep_str {X : Cx} : OpR X (binaryOp .Mult) (fun x y H Q => ∃ (z : Str) (n : Int), x = .str z ∧ y = .int n ∧ (decide (n < -(2 ^ 63 : Int)) || decide (n ≥ 2 ^ 63)) = false ∧
    ¬ ((z.length : Int) > (2 ^ 63 - 1) / n) ∧ Builtin.Str.tooLong (z.length * n.toNat) = false ∧ (n == 1 || z.length == 0) = false ∧ ¬ n < 1 ∧
    (⟨(List.replicate n.toNat z.cps).foldl (· ++ ·) #[]⟩ : Str).length ≤ sizeLine ∧ Q (.str ⟨(List.replicate n.toNat z.cps).foldl (· ++ ·) #[]⟩) H) := by
  intro pins s σ H x y v u Q I rx ry h
  obtain ⟨z, n, rfl, rfl, h1, h2, h3, h4, h5, h6, q⟩ := h
  obtain ⟨t, rfl⟩ := rx
  obtain ⟨t', rfl⟩ := ry
  refine PySem.P.mul_str h1 (fun _ _ => h2) (fun _ _ => h3) ?_
  rw [if_neg h5, if_neg (by rw [h4]; exact Bool.false_ne_true)]
  exact ⟨h6, ⟨.str _, H, I.tok _, ⟨_, rfl⟩, q⟩⟩
/-! ### the box -/
def Bx (b : Addr) (H H' : Hp) : Prop := ∀ c o, c ≠ b → H c = some o → H' c = some o
theorem Bx.refl (b : Addr) (H : Hp) : Bx b H H := fun _ _ _ h => h
theorem Bx.trans {b : Addr} {H H1 H2 : Hp} (x : Bx b H H1) (y : Bx b H1 H2) : Bx b H H2 := fun c o n h => y c o n (x c o n h)
theorem Bx.same {b : Addr} {H H' : Hp} (s : Same H H') : Bx b H H' := fun c o _ h => s c o h
theorem Box.draw {H : Hp} {b d : Addr} {ds : List Int} {n : Nat} (x : Box H b d ds n) : Box (upd H b (.lst [.ref d, .int ((n + 1 : Nat) : Int)])) b d ds (n + 1) :=
  ⟨upd_same, by rw [upd_ne x.ne]; exact x.2.1, x.2.2⟩
theorem Bx.draw {H : Hp} {b : Addr} {o : HO} : Bx b H (upd H b o) := fun c u n h => by rw [upd_ne n]; exact h
theorem Box.new {H : Hp} {b d l : Addr} {ds : List Int} {n : Nat} {o : HO} (x : Box H b d ds n) (h : H l = none) : Box (upd H l o) b d ds n :=
  ⟨by rw [upd_ne (ne_of_none x.1 h)]; exact x.1, by rw [upd_ne (ne_of_none x.2.1 h)]; exact x.2.1, x.2.2⟩
theorem Bx.new {H : Hp} {b l : Addr} {o : HO} (h : H l = none) : Bx b H (upd H l o) := Bx.same (Same.lst (Same.refl H) h)
theorem Bx.free {b c d : Addr} {H H' : Hp} {ds : List Int} {n : Nat} (x : Bx b H H') (y : Box H b d ds n) (y' : Box H' b d ds n ∨ H' b ≠ none) (h : H' c = none) : H c = none := by
  cases e : H c with
  | none => rfl
  | some o =>
    by_cases z : c = b
    · subst z
      rcases y' with y' | y'
      · rw [y'.1] at h
        cases h
      · exact absurd h y'
    · rw [x c o z e] at h
      cases h

/-- draws and new objects -/
structure Bs (b d : Addr) (ds : List Int) (H H' : Hp) (n : Nat) : Prop where
  bx : Bx b H H'
  box : Box H' b d ds n
  free : ∀ c, H' c = none → H c = none
theorem Bs.refl {b d : Addr} {ds : List Int} {H : Hp} {n : Nat} (h : Box H b d ds n) : Bs b d ds H H n := ⟨Bx.refl _ _, h, fun _ z => z⟩
theorem Bs.draw {b d : Addr} {ds : List Int} {H H' : Hp} {n : Nat} (h : Bs b d ds H H' n) : Bs b d ds H (upd H' b (.lst [.ref d, .int ((n + 1 : Nat) : Int)])) (n + 1) :=
  ⟨h.bx.trans Bx.draw, h.box.draw, fun c z => h.free c (by
    by_cases e : c = b
    · rw [e, upd_same] at z
      cases z
    · rw [upd_ne e] at z
      exact z)⟩
theorem Bs.new {b d l : Addr} {ds : List Int} {H H' : Hp} {n : Nat} {o : HO} (h : Bs b d ds H H' n) (nl : H' l = none) : Bs b d ds H (upd H' l o) n :=
  ⟨h.bx.trans (Bx.new nl), h.box.new nl, fun c z => h.free c (by
    by_cases e : c = l
    · rw [e]
      exact nl
    · rw [upd_ne e] at z
      exact z)⟩
theorem Bs.trans {b d : Addr} {ds : List Int} {H H1 H2 : Hp} {n m : Nat} (x : Bs b d ds H H1 n) (y : Bs b d ds H1 H2 m) : Bs b d ds H H2 m :=
  ⟨x.bx.trans y.bx, y.box, fun c z => x.free c (y.free c z)⟩
theorem Bs.nb {b d l : Addr} {ds : List Int} {H H' : Hp} {n : Nat} (h : Bs b d ds H H' n) (nl : H' l = none) : l ≠ b := fun z => by rw [z, h.box.1] at nl; cases nl
def wordsM : List (List Nat) := (["a", "xy", "import", "hold", "then", "zzzzzz", "asas"] : List Str).map fun z => z.cps.toList
def strsM : List (List Nat) := (["", "a", "a b", "(;)", "if x", "~~~~~~~~~~~~~~~~~~~~"] : List Str).map fun z => z.cps.toList
def menu : Tok → Prop
  | .word l => l ∈ wordsM
  | .num n => n ≤ 99999
  | .str l => l ∈ strsM
  | .sign c => c ∈ SGN
theorem menu_good {t : Tok} (m : menu t) : good t := by
  cases t with
  | word l =>
    have : ∀ l ∈ wordsM, l ≠ [] ∧ l.length ≤ 6 ∧ ∀ c ∈ l, c ∈ LET := by decide +kernel
    exact this l m
  | num n => exact m
  | str l =>
    have : ∀ l ∈ strsM, l.length ≤ 20 ∧ ∀ c ∈ l, mayB c = true := by decide +kernel
    exact this l m
  | sign c => exact m
theorem spell_len {t : Tok} (m : menu t) : (spell t).length ≤ 22 := by
  have g := menu_good m
  cases t with
  | word l => exact Nat.le_trans g.2.1 (by decide)
  | num n => exact Nat.le_trans (numT_dig g).2.1 (by decide)
  | str l =>
    have := g.1
    show ([34] ++ l ++ [34]).length ≤ 22
    rw [List.length_append, List.length_append]
    show 1 + l.length + 1 ≤ 22
    omega
  | sign c =>
    show 1 ≤ 22
    decide

section
variable {P : Program} {w : World} {K : PySem.W.Frag} {mg : Str → Option Value} {base : Heap}
theorem idx {m : Nat} {r : Int} (h0 : 0 ≤ r) (h1 : r < (m : Int)) : ∃ j : Nat, r = (j : Int) ∧ j < m := ⟨r.toNat, by omega, by omega⟩
theorem le9 {n : Nat} (h : n ≤ 100) : n ≤ sizeLine := Nat.le_trans h (by decide)

/-- '~' * 20 and the like -/
def spLTok : Sp := fun vs H Q _ => ∃ (b d : Addr) (ds : List Int) (n : Nat), vs = [.ref b] ∧ Box H b d ds n ∧
  ∀ H' p n' t, Bs b d ds H H' n' → H p = none → H' p = some (.tup (tokV t)) → menu t → Q (.ref p) H'
theorem scLTok : FnScope ["box", "kind"] ["box"] (defScope sToken) := ⟨rfl, rfl, rfl, by decide +kernel, rfl, by decide +kernel, by decide +kernel⟩
theorem ok_ltok {f f1 : Addr} {fd fd1 : FuncData} (F : Fun K "_law_token" "_law_token" sToken f fd) (T : Txt K mg)
    (F1 : FnOk P w K mg base CX0 1 f1 fd1 ["box", "many"] spDraw) (m1 : mg "_law_draw" = some (.ref f1)) (k1 : PySem.W.keepIn K (.ref f1) = true) (b1 : Binds K fd1 ["box", "many"] []) :
    FnOk P w K mg base CX0 2 f fd ["box"] spLTok := by
  have sc := scLTok
  refine F.ok sc (fun vs H Q E h => ?_) (fun cdv A outer s H vs Q E hr h => ?_)
  · obtain ⟨b, d, ds, n, rfl, _⟩ := h
    rfl
  · obtain ⟨b, d, ds, n, rfl, hB, q⟩ := h
    refine ⟨_, (pss_cons (ps_set (i := 1) sc.nd rfl (.inl rfl) (pe_call F1 hr (by rfl) m1 k1 b1 .nil pass0 (pa_cons (pv 0) (pa_cons pe_int pa_nil))))
(pss_cons (ps_if (pt_cmpR op_eq (pv 1) pe_int (nomark _))
(pss_one (ps_ret (pe_tup (pa_cons pe_str (pa_cons (pe_ix ix_list (pe_lst (pa_cons pe_int (pa_cons pe_int (pa_cons pe_int (pa_cons pe_int (pa_cons (pe_call F1 hr (by rfl) m1 k1 b1 .nil pass0 (pa_cons (pv 0) (pa_cons pe_int pa_nil))) pa_nil)))))) (pe_call F1 hr (by rfl) m1 k1 b1 .nil pass0 (pa_cons (pv 0) (pa_cons pe_int pa_nil))) (fun _ _ => rfl)) pa_nil))))) pss_nil)
(pss_cons (ps_if (pt_cmpR op_eq (pv 1) pe_int (nomark _))
(pss_one (ps_ret (pe_tup (pa_cons pe_str (pa_cons (pe_ix ix_list (pe_lst (pa_cons pe_str (pa_cons pe_str (pa_cons pe_str (pa_cons pe_str (pa_cons pe_str (pa_cons (pe_op op_rep_str pe_str pe_int) pa_nil))))))) (pe_call F1 hr (by rfl) m1 k1 b1 .nil pass0 (pa_cons (pv 0) (pa_cons pe_int pa_nil))) (fun _ _ => rfl)) pa_nil))))) pss_nil)
(pss_cons (ps_if (pt_cmpR op_eq (pv 1) pe_int (nomark _))
(pss_one (ps_ret (pe_tup (pa_cons pe_str (pa_cons (pe_item_str pe_str (pe_call F1 hr (by rfl) m1 k1 b1 .nil pass0 (pa_cons (pv 0) (pa_cons pe_int pa_nil))) (fun _ _ => rfl)) pa_nil))))) pss_nil)
(pss_one (ps_ret (pe_tup (pa_cons pe_str (pa_cons (pe_ix ix_list (pe_lst (pa_cons pe_str (pa_cons pe_str (pa_cons pe_str (pa_cons pe_str (pa_cons pe_str (pa_cons pe_str (pa_cons pe_str pa_nil)))))))) (pe_call F1 hr (by rfl) m1 k1 b1 .nil pass0 (pa_cons (pv 0) (pa_cons pe_int pa_nil))) (fun _ _ => rfl)) pa_nil))))))))), ?_⟩
    refine ⟨_, rfl, b, d, ds, n, 5, rfl, hB, by decide, fun r h0 h1 => ?_⟩
    have s1 := (Bs.refl hB).draw
    refine ⟨_, rfl, rfl, _, rfl, ite2 (fun h => ?_) (fun h => ?_)⟩
    · -- a number
      refine ⟨_, rfl, b, d, ds, n + 1, 1000, rfl, s1.box, by decide, fun r2 h2 h3 => ⟨by show 5 ≤ sizeLine; decide, fun l nl => ?_⟩⟩
      have s2 := s1.draw
      have s3 := s2.new (o := .lst [V.int 0, V.int 7, V.int 10, V.int 99999, V.int r2]) nl
      refine ⟨_, rfl, b, d, ds, n + 2, 5, rfl, s3.box, by decide, fun r3 h4 h5 => ?_⟩
      have s4 := s3.draw
      obtain ⟨j, rfl, hj⟩ := idx (m := 5) h4 h5
      obtain ⟨y, rfl, hy⟩ := idx (m := 1000) h2 h3
      obtain ⟨v, ev, hv⟩ : ∃ v : Nat, ([V.int 0, V.int 7, V.int 10, V.int 99999, V.int (y : Nat)])[j]? = some (.int (v : Nat)) ∧ v ≤ 99999 := by
        match j, hj with
        | 0, _ => exact ⟨0, rfl, by decide⟩
        | 1, _ => exact ⟨7, rfl, by decide⟩
        | 2, _ => exact ⟨10, rfl, by decide⟩
        | 3, _ => exact ⟨99999, rfl, by decide⟩
        | 4, _ => exact ⟨y, rfl, by omega⟩
      refine ⟨l, _, _, .int (v : Nat), rfl, rfl, SqL.of (xs := [V.int 0, V.int 7, V.int 10, V.int 99999, V.int (y : Nat)]) (by rw [upd_ne (s2.nb nl), upd_same]), atI_nat ev, two_le, fun p np => ?_⟩
      exact q _ p (n + 3) (.num v) (s4.new np) (s4.free p np) upd_same hv
    refine ⟨_, rfl, rfl, _, rfl, ite2 (fun h => ?_) (fun h => ?_)⟩
    · -- a string
      refine ⟨_, _, rfl, rfl, by decide, by decide, by decide, by decide, by decide, by decide, by show 6 ≤ sizeLine; decide, fun l nl => ?_⟩
      have s2 := s1.new (o := .lst (strsM.map fun z => V.str (S z))) nl
      refine ⟨_, rfl, b, d, ds, n + 1, 6, rfl, s2.box, by decide, fun r3 h4 h5 => ?_⟩
      have s3 := s2.draw
      obtain ⟨j, rfl, hj⟩ := idx (m := 6) h4 h5
      obtain ⟨z, ez⟩ : ∃ z, strsM[j]? = some z := ⟨_, List.getElem?_eq_getElem hj⟩
      refine ⟨l, _, _, .str (S z), rfl, rfl, SqL.of (xs := strsM.map fun z => V.str (S z)) (by rw [upd_ne (s1.nb nl), upd_same]; exact congrArg (fun l => some (HO.lst l)) (by decide +kernel)), atI_nat (by rw [List.getElem?_map, ez]; rfl), two_le, fun p np => ?_⟩
      exact q _ p (n + 2) (.str z) (s3.new np) (s3.free p np) upd_same (List.mem_of_getElem? ez)
    refine ⟨_, rfl, rfl, _, rfl, ite2 (fun h => ?_) (fun h => ?_)⟩
    · -- a sign
      refine ⟨_, rfl, b, d, ds, n + 1, 9, rfl, s1.box, by decide, fun r3 h4 h5 => ?_⟩
      have s3 := s1.draw
      obtain ⟨j, rfl, hj⟩ := idx (m := 9) h4 h5
      obtain ⟨z, ez⟩ : ∃ z, SGN[j]? = some z := ⟨_, List.getElem?_eq_getElem hj⟩
      refine ⟨_, _, z, rfl, rfl, by omega, by omega, by show (j : Int) < ((9 : Nat) : Int); omega, ?_, two_le, fun p np => ?_⟩
      · rw [sgnS]
        exact item_S ez
      · exact q _ p (n + 2) (.sign z) (s3.new np) (s3.free p np) upd_same (List.mem_of_getElem? ez)
    · -- a word
      refine ⟨by show 7 ≤ sizeLine; decide, fun l nl => ?_⟩
      have s2 := s1.new (o := .lst (wordsM.map fun z => V.str (S z))) nl
      refine ⟨_, rfl, b, d, ds, n + 1, 7, rfl, s2.box, by decide, fun r3 h4 h5 => ?_⟩
      have s3 := s2.draw
      obtain ⟨j, rfl, hj⟩ := idx (m := 7) h4 h5
      obtain ⟨z, ez⟩ : ∃ z, wordsM[j]? = some z := ⟨_, List.getElem?_eq_getElem hj⟩
      refine ⟨l, _, _, .str (S z), rfl, rfl, SqL.of (xs := wordsM.map fun z => V.str (S z)) (by rw [upd_ne (s1.nb nl), upd_same]; exact congrArg (fun l => some (HO.lst l)) (by decide +kernel)), atI_nat (by rw [List.getElem?_map, ez]; rfl), two_le, fun p np => ?_⟩
      exact q _ p (n + 2) (.word z) (s3.new np) (s3.free p np) upd_same (List.mem_of_getElem? ez)
end
end K1

set_option maxRecDepth 100000
set_option maxHeartbeats 4000000
namespace K1
open PySem PySem.Spec PyProof.Rows L2 GD
section
variable {P : Program} {w : World} {K : PySem.W.Frag} {mg : Str → Option Value} {base : Heap}

/-! ### _law_spelled -/
def spSpell : Sp := fun vs H Q _ => ∃ (p : Addr) (t : Tok), vs = [.ref p] ∧ H p = some (.tup (tokV t)) ∧ menu t ∧ Q (.str (S (spell t))) H
theorem scSpell : FnScope ["token"] ["token"] (defScope sSpelled) := ⟨rfl, rfl, rfl, by decide +kernel, rfl, by decide +kernel, by decide +kernel⟩
theorem ok_spell {f : Addr} {fd : FuncData} (F : Fun K "_law_spelled" "_law_spelled" sSpelled f fd) (T : Txt K mg) : FnOk P w K mg base CX0 1 f fd ["token"] spSpell := by
  have sc := scSpell
  refine F.ok sc (fun vs H Q E h => ?_) (fun cdv A outer s H vs Q E hr h => ?_)
  · obtain ⟨p, t, rfl, _⟩ := h
    rfl
  · obtain ⟨p, t, rfl, hp, hm, q⟩ := h
    refine ⟨_, (pss_cons (ps_if (pt_cmpR op_eq (pe_ix ix_tup (pv 0) pe_int (fun _ _ => rfl)) pe_str (nomark _))
(pss_one (ps_ret (pe_op op_add_str (pe_op op_add_str pe_str (pe_ix ix_tup (pv 0) pe_int (fun _ _ => rfl))) pe_str))) pss_nil)
(pss_one (ps_ret (pe_callTy (CallR.or call_str_int SkE.call_str_str) (by rfl) T.bstr (by decide +kernel) (pa_cons (pe_ix ix_tup (pv 0) pe_int (fun _ _ => rfl)) pa_nil))))), ?_⟩
    cases t with
    | word l =>
      refine ⟨_, rfl, p, _, 0, _, rfl, rfl, SqT.of hp, atI_nat (j := 0) rfl, rfl, _, rfl, ite2 (fun h => absurd h (by decide)) (fun _ => ?_)⟩
      exact ⟨_, rfl, p, _, 1, _, rfl, rfl, SqT.of hp, atI_nat (j := 1) rfl, .inr ⟨_, rfl, q⟩⟩
    | num n =>
      refine ⟨_, rfl, p, _, 0, _, rfl, rfl, SqT.of hp, atI_nat (j := 0) rfl, rfl, _, rfl, ite2 (fun h => absurd h (by decide)) (fun _ => ?_)⟩
      refine ⟨_, rfl, p, _, 1, _, rfl, rfl, SqT.of hp, atI_nat (j := 1) rfl, .inl ⟨_, rfl, log_small (Nat.lt_succ_of_le hm), ?_⟩⟩
      have e : S (spell (.num n)) = Str.ofString (toString ((n : Nat) : Int)) := S_of _
      rw [e] at q
      exact q
    | str l =>
      refine ⟨_, rfl, p, _, 0, _, rfl, rfl, SqT.of hp, atI_nat (j := 0) rfl, rfl, _, rfl, ite2 (fun _ => ?_) (fun h => absurd (by decide) h)⟩
      have hl := spell_len (t := .str l) hm
      have h2 : ([34] ++ l ++ [34] : List Nat).length ≤ 22 := hl
      rw [List.length_append, List.length_append] at h2
      refine ⟨_, rfl, p, _, 1, .str (S l), rfl, rfl, SqT.of hp, atI_nat (j := 1) rfl, _, _, rfl, rfl, ?_, _, _, rfl, rfl, ?_, ?_⟩
      · rw [S_len]
        show 1 + l.length ≤ sizeLine
        exact le9 (by simp at h2; omega)
      · show (S [34] ++ S l).length + 1 ≤ sizeLine
        rw [S_app, S_len, List.length_append]
        exact le9 (by simp at h2 ⊢; omega)
      · have e : (("\"" : Str) ++ S l) ++ ("\"" : Str) = S (spell (.str l)) := by
          show (S [34] ++ S l) ++ S [34] = _
          rw [S_app, S_app]
          rfl
        show Q (.str ((("\"" : Str) ++ S l) ++ ("\"" : Str))) H
        rw [e]
        exact q
    | sign c =>
      refine ⟨_, rfl, p, _, 0, _, rfl, rfl, SqT.of hp, atI_nat (j := 0) rfl, rfl, _, rfl, ite2 (fun h => absurd h (by decide)) (fun _ => ?_)⟩
      exact ⟨_, rfl, p, _, 1, _, rfl, rfl, SqT.of hp, atI_nat (j := 1) rfl, .inr ⟨_, rfl, q⟩⟩

/-! ### gaps -/
/-- two tokens that would run into one another -/
def clash : Tok → Tok → Prop
  | .word _, .word _ => True
  | .num _, .num _ => True
  | _, _ => False
theorem clash_apart {t u : Tok} (gu : good u) (h : ¬ clash t u) (r : List Nat) : apart t (spell u ++ r) := by
  have hL : ∀ c ∈ LET, c ∉ DIG := by decide
  have hS : ∀ c ∈ SGN, c ∉ LET ∧ c ∉ DIG := by decide
  cases t with
  | str _ => trivial
  | sign _ => trivial
  | word l =>
    intro c v e
    cases u with
    | word m => exact absurd trivial h
    | num n =>
      obtain ⟨h1, _, h3, _⟩ := numT_dig gu
      cases em : numT n with
      | nil => exact absurd em h1
      | cons x y =>
        have e2 : numT n ++ r = c :: v := e
        rw [em] at e2 h3
        cases e2
        exact let_dig (h3 _ List.mem_cons_self)
    | str m =>
      cases e
      decide
    | sign m =>
      cases e
      exact (hS _ gu).1
  | num n =>
    intro c v e
    cases u with
    | num m => exact absurd trivial h
    | word m =>
      obtain ⟨h1, _, h3⟩ := gu
      cases m with
      | nil => exact absurd rfl h1
      | cons x y =>
        cases e
        exact hL _ (h3 _ List.mem_cons_self)
    | str m =>
      cases e
      decide
    | sign m =>
      cases e
      exact (hS _ gu).2
theorem gapped_of : ∀ (ts : List Tok) (gs : List Nat), (∀ t ∈ ts, good t) → (∀ i t u, ts[i]? = some t → ts[i + 1]? = some u → gs[i]? = some 0 → ¬ clash t u) → gapped (ts.zip gs)
  | [], _, _, _ => trivial
  | [_], [], _, _ => trivial
  | [_], _ :: _, _, _ => trivial
  | _ :: _ :: _, [], _, _ => trivial
  | _ :: _ :: _, [_], _, _ => trivial
  | t :: u :: r, g :: g' :: gs, hg, hc => by
    refine ⟨fun z => ?_, ?_⟩
    · exact clash_apart (hg u (by simp)) (hc 0 t u rfl rfl (by rw [z]; rfl)) _
    · exact gapped_of (u :: r) (g' :: gs) (fun x hx => hg x (List.mem_cons_of_mem _ hx)) (fun i a b h1 h2 h3 => hc (i + 1) a b h1 h2 h3)
theorem joined_app : ∀ (a b : List (Tok × Nat)), joined (a ++ b) = joined a ++ joined b
  | [], _ => rfl
  | (t, g) :: a, b => by
    show spell t ++ List.replicate g 32 ++ joined (a ++ b) = spell t ++ List.replicate g 32 ++ joined a ++ joined b
    rw [joined_app a b]
    simp only [List.append_assoc]
theorem joined_len : ∀ (l : List (Tok × Nat)), (∀ p ∈ l, menu p.1 ∧ p.2 ≤ 3) → (joined l).length ≤ 25 * l.length
  | [], _ => Nat.le_refl _
  | (t, g) :: r, h => by
    have h1 := h (t, g) List.mem_cons_self
    have h2 := joined_len r (fun p hp => h p (List.mem_cons_of_mem _ hp))
    have h3 : (spell t).length ≤ 22 := spell_len h1.1
    have h4 : g ≤ 3 := h1.2
    show (spell t ++ List.replicate g 32 ++ joined r).length ≤ 25 * (r.length + 1)
    rw [List.length_append, List.length_append, List.length_replicate]
    omega

/-! ### _law_joined -/
theorem TokL.get {H : Hp} {vs : List V} {ts : List Tok} : ∀ {i : Nat} {t : Tok}, TokL H vs ts → ts[i]? = some t → ∃ q, vs[i]? = some (.ref q) ∧ H q = some (.tup (tokV t)) := by
  intro i t h
  induction h generalizing i with
  | nil => intro e; simp at e
  | @cons v u vs ts r h ih =>
    intro e
    cases i with
    | zero =>
      have e : u = t := by simpa using e
      subst e
      obtain ⟨q, rfl, h⟩ := r
      exact ⟨q, rfl, h⟩
    | succ i =>
      obtain ⟨q, h1, h2⟩ := ih (by simpa using e)
      exact ⟨q, by simpa using h1, h2⟩
theorem TokL.len {H : Hp} {vs : List V} {ts : List Tok} (h : TokL H vs ts) : vs.length = ts.length := Paired.length h
theorem TokL.bx {b : Addr} {H H' : Hp} {vs : List V} {ts : List Tok} {xs : List V} (h : TokL H vs ts) (hb : H b = some (.lst xs)) (x : Bx b H H') : TokL H' vs ts :=
  h.imp fun q t e => x q _ (ne_of e hb (fun z => by cases z)) e
def kindS : Tok → Str
  | .word _ => "word"
  | .num _ => "number"
  | .str _ => "string"
  | .sign _ => "sign"
theorem tok0 (t : Tok) : (tokV t)[0]? = some (.str (kindS t)) := by cases t <;> rfl
theorem clash_kind {t u : Tok} (h : clash t u) : kindS t = kindS u ∧ inV (.str (kindS t)) [.str "word", .str "number"] = true := by
  have h1 : inV (.str "word") [.str "word", .str "number"] = true := by decide +kernel
  have h2 : inV (.str "number") [.str "word", .str "number"] = true := by decide +kernel
  cases t <;> cases u <;> first | exact h.elim | exact ⟨rfl, h1⟩ | exact ⟨rfl, h2⟩
def gapsM : List Nat := [0, 0, 1, 3]
theorem gapsV : ([.str "", .str "", .str " ", .str "   "] : List V) = gapsM.map fun g => V.str (S (List.replicate g 32)) := by decide +kernel
def textOf (g0 : Nat) (ts : List Tok) (gs : List Nat) : List Nat := List.replicate g0 32 ++ joined (ts.zip gs)
theorem textOf_nil (g0 : Nat) : textOf g0 [] [] = List.replicate g0 32 := List.append_nil _
theorem textOf_len {g0 : Nat} {ts : List Tok} {gs : List Nat} (h0 : g0 ≤ 1) (hm : ∀ t ∈ ts, menu t) (hg : ∀ g ∈ gs, g ≤ 3) : (textOf g0 ts gs).length ≤ 1 + 25 * ts.length := by
  unfold textOf
  rw [List.length_append, List.length_replicate]
  have h1 := joined_len (ts.zip gs) (fun p hp => ⟨hm _ (List.of_mem_zip hp).1, hg _ (List.of_mem_zip hp).2⟩)
  have h2 : (ts.zip gs).length ≤ ts.length := by rw [List.length_zip]; omega
  omega
theorem textOf_snoc {g0 g : Nat} {ts : List Tok} {gs : List Nat} {k : Nat} {t : Tok} (h : ts[k]? = some t) (hl : gs.length = k) :
    textOf g0 (ts.take (k + 1)) (gs ++ [g]) = textOf g0 (ts.take k) gs ++ spell t ++ List.replicate g 32 := by
  unfold textOf
  have lt := (List.getElem?_eq_some_iff.mp h).1
  rw [List.take_add_one, h]
  show _ ++ joined ((ts.take k ++ [t]).zip (gs ++ [g])) = _
  rw [List.zip_append (by rw [List.length_take, hl]; omega), joined_app]
  show List.replicate g0 32 ++ (joined ((ts.take k).zip gs) ++ (spell t ++ List.replicate g 32 ++ [])) = _
  rw [List.append_nil]
  simp only [List.append_assoc]
def spJoin : Sp := fun vs H Q _ => ∃ (b d : Addr) (ds : List Int) (n : Nat) (D : Addr) (xs : List V) (ts : List Tok), vs = [.ref b, .ref D] ∧ Box H b d ds n ∧ H D = some (.lst xs) ∧ TokL H xs ts ∧ D ≠ b ∧ (∀ t ∈ ts, menu t) ∧ ts.length ≤ 20 ∧
  ∀ H' n' g0 gs, Bs b d ds H H' n' → g0 ≤ 1 → gs.length = ts.length → (∀ g ∈ gs, g ≤ 3) → (∀ i t u, ts[i]? = some t → ts[i + 1]? = some u → gs[i]? = some 0 → ¬ clash t u) → Q (.str (S (textOf g0 ts gs))) H'
theorem scJoin : FnScope ["box", "tokens", "text", "k", "gap"] ["box", "tokens"] (defScope sJoined) := ⟨rfl, rfl, rfl, by decide +kernel, rfl, by decide +kernel, by decide +kernel⟩
theorem ok_join {f f1 f2 : Addr} {fd fd1 fd2 : FuncData} (F : Fun K "_law_joined" "_law_joined" sJoined f fd) (T : Txt K mg)
    (F1 : FnOk P w K mg base CX0 1 f1 fd1 ["box", "many"] spDraw) (m1 : mg "_law_draw" = some (.ref f1)) (k1 : PySem.W.keepIn K (.ref f1) = true) (b1 : Binds K fd1 ["box", "many"] [])
    (F2 : FnOk P w K mg base CX0 1 f2 fd2 ["token"] spSpell) (m2 : mg "_law_spelled" = some (.ref f2)) (k2 : PySem.W.keepIn K (.ref f2) = true) (b2 : Binds K fd2 ["token"] []) :
    FnOk P w K mg base CX0 2 f fd ["box", "tokens"] spJoin := by
  have sc := scJoin
  refine F.ok sc (fun vs H Q E h => ?_) (fun cdv A outer s H vs Q E hr h => ?_)
  · obtain ⟨b, d, ds, n, D, xs, ts, rfl, _⟩ := h
    rfl
  · obtain ⟨b, d, ds, n, D, xs, ts, rfl, hB, hD, hT, nDb, hm, hl, q⟩ := h
    refine ⟨_, (pss_cons (ps_set (i := 2) sc.nd rfl (.inl rfl) (pe_ix ix_list (pe_lst (pa_cons pe_str (pa_cons pe_str pa_nil))) (pe_call F1 hr (by rfl) m1 k1 b1 .nil pass0 (pa_cons (pv 0) (pa_cons pe_int pa_nil))) (fun _ _ => rfl)))
(pss_cons (ps_for PassesOwn.never rfl (pi_range1 rfl T.range (pa_cons (pe_callB call_len_seq (by rfl) T.len (by decide +kernel) (pa_cons (pv 1) pa_nil)) pa_nil)) (pg_name (i := 3) sc.nd rfl (.inl rfl))
(pss_cons (ps_set (i := 2) sc.nd rfl (.inl rfl) (pe_op op_add_str (pv 2) (pe_call F2 hr (by rfl) m2 k2 b2 .nil pass0 (pa_cons (pe_ix ix_list (pv 1) (pv 3) (fun _ _ => rfl)) pa_nil))))
(pss_cons (ps_set (i := 4) sc.nd rfl (.inl rfl) (pe_ix ix_list (pe_lst (pa_cons pe_str (pa_cons pe_str (pa_cons pe_str (pa_cons pe_str pa_nil))))) (pe_call F1 hr (by rfl) m1 k1 b1 .nil pass0 (pa_cons (pv 0) (pa_cons pe_int pa_nil))) (fun _ _ => rfl)))
(C8.pss_cut (ps_if (PW.pt (pw_and (pt_cmpR op_lt (pe_op op_add (pv 3) pe_int) (pe_callB call_len_seq (by rfl) T.len (by decide +kernel) (pa_cons (pv 1) pa_nil)) (nomark _)) (pw_and (pt_cmpR op_eq (pe_ix ix_tup (pe_ix ix_list (pv 1) (pv 3) (fun _ _ => rfl)) pe_int (fun _ _ => rfl)) (pe_ix ix_tup (pe_ix ix_list (pv 1) (pe_op op_add (pv 3) pe_int) (fun _ _ => rfl)) pe_int (fun _ _ => rfl)) (nomark _)) (pw_and (pt_cmpR op_in_seq (pe_ix ix_tup (pe_ix ix_list (pv 1) (pv 3) (fun _ _ => rfl)) pe_int (fun _ _ => rfl)) (pe_tup (pa_cons pe_str (pa_cons pe_str pa_nil))) rfl) (pw_and1 (pt_cmpR op_eq (pv 4) pe_str (nomark _)))))))
(pss_one (ps_set (i := 4) sc.nd rfl (.inl rfl) pe_str)) pss_nil)
(pss_one (ps_set (i := 2) sc.nd rfl (.inl rfl) (pe_op op_add_str (pv 2) (pv 4))))))))
(pss_one (ps_ret (pv 2))))), ?_⟩
    have z0 := Bs.refl hB
    refine ⟨two_le, fun l nl => ?_⟩
    have z1 := z0.new (o := .lst [V.str "", V.str " "]) nl
    refine ⟨_, rfl, b, d, ds, n, 2, rfl, z1.box, by decide, fun r h0 h1 => ?_⟩
    have z2 := z1.draw
    obtain ⟨j, rfl, hj⟩ := idx (m := 2) h0 h1
    have el : ([V.str "", V.str " "] : List V)[j]? = some (.str (S (List.replicate j 32))) := by
      match j, hj with
      | 0, _ => rfl
      | 1, _ => rfl
    refine ⟨l, _, _, _, rfl, rfl, SqL.of (xs := [V.str "", V.str " "]) (by rw [upd_ne (z0.nb nl), upd_same]), atI_nat el, ?_⟩
    have D2 := z2.bx D _ nDb hD
    have T2 : TokL (upd (upd H l (.lst [V.str "", V.str " "])) b (.lst [V.ref d, V.int ((n + 1 : Nat) : Int)])) xs ts := hT.bx hB.1 z2.bx
    refine ⟨_, rfl, D, xs, rfl, .inl (SqL.of D2), (xs.length : Nat), rfl, by omega, by have := hT.len; omega, ?_⟩
    have xl : ((xs.length : Nat) : Int).toNat = ts.length := by rw [Int.toNat_natCast, hT.len]
    rw [xl]
    refine for_range (lo := 0) (n := ts.length) (fun k σ H' => ∃ (n' : Nat) (gs : List Nat) (y3 y4 : Option V), σ = [some (.ref b), some (.ref D), some (.str (S (textOf j (ts.take k) gs))), y3, y4] ∧ Bs b d ds H H' n' ∧ gs.length = k ∧ (∀ g ∈ gs, g ≤ 3) ∧
      ∀ i t u, i < k → ts[i]? = some t → ts[i + 1]? = some u → gs[i]? = some 0 → ¬ clash t u) ⟨n + 1, [], none, none, by rw [List.take_zero, textOf_nil]; rfl, z2, rfl, (fun _ h => by cases h), fun i _ _ h => by omega⟩ ?_ ?_
    · rintro k σ H3 hk ⟨n', gs, y3, y4, rfl, z3, lgs, g3, hc⟩
      obtain ⟨t, ht⟩ : ∃ t, ts[k]? = some t := ⟨_, List.getElem?_eq_getElem hk⟩
      have mt : menu t := hm t (List.mem_of_getElem? ht)
      have D3 := z3.bx D _ nDb hD
      have T3 := hT.bx hB.1 z3.bx
      obtain ⟨u, hu1, hu2⟩ := T3.get ht
      have e0k : (0 + (k : Int)) = ((k : Nat) : Int) := Int.zero_add _
      have tl : (textOf j (ts.take k) gs).length ≤ 501 := by
        have := textOf_len (g0 := j) (ts := ts.take k) (gs := gs) (by omega) (fun t h => hm t (List.mem_of_mem_take h)) g3
        rw [List.length_take] at this
        omega
      have sl := spell_len mt
      refine ⟨_, rfl, _, rfl, _, rfl, D, xs, _, .ref u, rfl, rfl, SqL.of D3, at_of e0k hu1, u, t, rfl, hu2, mt, _, _, rfl, rfl, by rw [S_len, S_len]; exact smallL (by omega), ?_⟩
      rw [S_app]
      refine ⟨by show 4 ≤ sizeLine; decide, fun l2 nl2 => ?_⟩
      have z4 := z3.new (o := .lst [V.str "", V.str "", V.str " ", V.str "   "]) nl2
      refine ⟨_, rfl, b, d, ds, n', 4, rfl, z4.box, by decide, fun r h0 h1 => ?_⟩
      have z5 := z4.draw
      obtain ⟨j2, rfl, hj2⟩ := idx (m := 4) h0 h1
      obtain ⟨g, eg, hg⟩ : ∃ g, ([V.str "", V.str "", V.str " ", V.str "   "] : List V)[j2]? = some (.str (S (List.replicate g 32))) ∧ g ≤ 3 := by
        match j2, hj2 with
        | 0, _ => exact ⟨0, rfl, by decide⟩
        | 1, _ => exact ⟨0, rfl, by decide⟩
        | 2, _ => exact ⟨1, rfl, by decide⟩
        | 3, _ => exact ⟨3, rfl, by decide⟩
      refine ⟨l2, _, _, _, rfl, rfl, SqL.of (xs := [V.str "", V.str "", V.str " ", V.str "   "]) (by rw [upd_ne (z3.nb nl2), upd_same]), atI_nat eg, ?_⟩
      have D5 := z5.bx D _ nDb hD
      have T5 := hT.bx hB.1 z5.bx
      obtain ⟨v, hv1, hv2⟩ := T5.get ht
      refine ⟨fun σ' H' => ∃ g m, σ' = [some (.ref b), some (.ref D), some (.str (S (textOf j (ts.take k) gs ++ spell t))), some (.int (0 + (k : Int))), some (.str (S (List.replicate g 32)))] ∧ Bs b d ds H H' m ∧ g ≤ 3 ∧
        ∀ u, ts[k + 1]? = some u → g = 0 → ¬ clash t u, ?_, ?_⟩
      · refine ⟨_, rfl, _, _, rfl, rfl, _, rfl, D, xs, rfl, .inl (SqL.of D5), _, _, rfl, rfl, _, rfl, ite2 (fun h => ?_) (fun h => ?_)⟩
        · have lt : k + 1 < ts.length := by
            have := of_decide_eq_true h
            have := hT.len
            omega
          obtain ⟨u2, hu2'⟩ : ∃ u2, ts[k + 1]? = some u2 := ⟨_, List.getElem?_eq_getElem lt⟩
          obtain ⟨v2, hw1, hw2⟩ := T5.get hu2'
          have e1k : (0 + (k : Int) + 1) = ((k + 1 : Nat) : Int) := by omega
          refine ⟨_, rfl, _, rfl, D, xs, _, .ref v, rfl, rfl, SqL.of D5, at_of e0k hv1, v, _, 0, _, rfl, rfl, SqT.of hv2, atI_nat (j := 0) (tok0 t), ?_⟩
          refine ⟨_, rfl, _, rfl, _, _, rfl, rfl, D, xs, _, .ref v2, rfl, rfl, SqL.of D5, at_of e1k hw1, v2, _, 0, _, rfl, rfl, SqT.of hw2, atI_nat (j := 0) (tok0 u2), rfl, _, rfl, ite2 (fun h2 => ?_) (fun h2 => ?_)⟩
          · refine ⟨_, rfl, _, rfl, D, xs, _, .ref v, rfl, rfl, SqL.of D5, at_of e0k hv1, v, _, 0, _, rfl, rfl, SqT.of hv2, atI_nat (j := 0) (tok0 t), two_le, fun p np => ?_⟩
            have z6 := z5.new (o := .tup [V.str "word", V.str "number"]) np
            refine ⟨p, _, rfl, .inr (SqT.of upd_same), rfl, rfl, _, rfl, ite2 (fun h3 => ?_) (fun h3 => ?_)⟩
            · refine ⟨_, rfl, rfl, _, rfl, ite2 (fun h4 => ?_) (fun h4 => ?_)⟩
              · exact ⟨1, _, rfl, z6, by decide, fun _ _ z => by cases z⟩
              · refine ⟨g, _, rfl, z6, hg, fun _ _ z => absurd (decide_eq_true ?_) h4⟩
                rw [z]
                rfl
            · refine ⟨g, _, rfl, z6, hg, fun u3 hu3 _ c => h3 ?_⟩
              exact (clash_kind c).2
          · refine ⟨g, _, rfl, z5, hg, fun u3 hu3 _ c => h2 (decide_eq_true ?_)⟩
            rw [hu2'] at hu3
            cases hu3
            rw [(clash_kind c).1]
        · refine ⟨g, _, rfl, z5, hg, fun u3 hu3 _ _ => h (decide_eq_true ?_)⟩
          have lt := (List.getElem?_eq_some_iff.mp hu3).1
          have := hT.len
          omega
      · rintro σ' H6 ⟨g, m, rfl, z6, hg, hcl⟩
        refine ⟨_, rfl, _, rfl, _, _, rfl, rfl, ?_, m, gs ++ [g], some (.int (0 + (k : Int))), some (.str (S (List.replicate g 32))), ?_, z6, ?_, ?_, ?_⟩
        · rw [S_len, S_len, List.length_append, List.length_replicate]
          exact smallL (by omega)
        · rw [textOf_snoc ht lgs, S_app]
          rfl
        · rw [List.length_append, lgs]
          rfl
        · intro g' hg'
          rcases List.mem_append.mp hg' with h | h
          · exact g3 g' h
          · rw [List.mem_singleton.mp h]
            exact hg
        · intro i a c hi ha hc' hg0
          by_cases hik : i < k
          · rw [List.getElem?_append_left (by omega)] at hg0
            exact hc i a c hik ha hc' hg0
          · have e : i = k := by omega
            subst e
            rw [List.getElem?_append_right (by omega), lgs, Nat.sub_self] at hg0
            rw [ht] at ha
            cases ha
            exact hcl c hc' (by simpa using hg0)
    · rintro σ H3 ⟨n', gs, y3, y4, rfl, z3, lgs, g3, hc⟩
      refine ⟨_, rfl, ?_⟩
      rw [List.take_length]
      exact q H3 n' j gs z3 (by omega) lgs g3 (fun i t u h1 h2 h3 => hc i t u (List.getElem?_eq_some_iff.mp h1).1 h1 h2 h3)
end
end K1

set_option maxRecDepth 100000
set_option maxHeartbeats 4000000
namespace K1
open PySem PySem.Spec PyProof.Rows L2 GD
/-! ### tokens as data -/
def tokD : Tok → PyData
  | .word l => .tuple [.str "word", .str (S l)]
  | .num n => .tuple [.str "number", .int (n : Nat)]
  | .str l => .tuple [.str "string", .str (S l)]
  | .sign c => .tuple [.str "sign", .str (S [c])]
theorem tokD_dp {K : PySem.W.Frag} {H : Hp} {q : Addr} {t : Tok} (h : H q = some (.tup (tokV t))) : Dp K H (.ref q) (tokD t) := by
  cases t with
  | word l => exact .tup (SqT.of h) (.cons (.str _) (.cons (.str _) .nil))
  | num n => exact .tup (SqT.of h) (.cons (.str _) (.cons (.int _) .nil))
  | str l => exact .tup (SqT.of h) (.cons (.str _) (.cons (.str _) .nil))
  | sign c => exact .tup (SqT.of h) (.cons (.str _) (.cons (.str _) .nil))
theorem toksD_dp {K : PySem.W.Frag} {H : Hp} {D : Addr} {vs : List V} {ts : List Tok} (h : H D = some (.lst vs)) (t : TokL H vs ts) : Dp K H (.ref D) (.list (ts.map tokD)) := by
  refine .lst (SqL.of h) ?_
  induction t with
  | nil => exact .nil
  | @cons v u vs ts r t ih =>
    obtain ⟨q, rfl, hq⟩ := r
    refine .cons (tokD_dp hq) ?_
    have : ∀ {vs ts}, TokL H vs ts → DpAll K H vs (ts.map tokD) := fun {vs ts} t => by
      induction t with
      | nil => exact .nil
      | @cons v u vs ts r t ih =>
        obtain ⟨q, rfl, hq⟩ := r
        exact .cons (tokD_dp hq) ih
    exact this t
theorem pair_len (a b : Str) : (tupleText [a, b]).length = a.length + b.length + 4 := by
  show (("(" : Str) ++ (a ++ ", " ++ b) ++ (")" : Str)).length = _
  rw [strLen_append, strLen_append, strLen_append, strLen_append]
  show 1 + (a.length + 2 + b.length) + 1 = _
  omega
theorem tokD_shown {t : Tok} (m : menu t) : (tokD t).shown.length ≤ 100 := by
  cases t with
  | word l =>
    have : ∀ l ∈ wordsM, (tokD (.word l)).shown.length ≤ 100 := by decide +kernel
    exact this l m
  | num n =>
    show (tupleText [reprText "number", (toString ((n : Nat) : Int) : Str)]).length ≤ 100
    rw [pair_len]
    have h1 : (reprText "number").length = 8 := by decide +kernel
    have h2 : ((toString ((n : Nat) : Int) : Str)).length ≤ 5 := by
      have := (numT_dig (show n ≤ 99999 from m)).2.1
      have e : (Str.ofString (toString ((n : Nat) : Int))).length = (numT n).length := by
        show (Str.ofString (toString ((n : Nat) : Int))).cps.size = _
        unfold numT
        simp
      rw [← e] at this
      exact this
    omega
  | str l =>
    have : ∀ l ∈ strsM, (tokD (.str l)).shown.length ≤ 100 := by decide +kernel
    exact this l m
  | sign c =>
    have : ∀ c ∈ SGN, (tokD (.sign c)).shown.length ≤ 100 := by decide +kernel
    exact this c m
theorem tokD_more {t : Tok} (m : menu t) : (tokD t).showable = true ∧ (tokD t).hasDict = false ∧ (tokD t).depth ≤ 3 := by
  cases t with
  | word l => exact ⟨rfl, rfl, by simp [tokD, PyData.depth, PyData.depthAll]⟩
  | num n =>
    refine ⟨?_, rfl, by simp [tokD, PyData.depth, PyData.depthAll]⟩
    show (true && (decide (((n : Nat) : Int).natAbs.log2 < 1920) && true)) = true
    rw [decide_eq_true (log_small (Nat.lt_succ_of_le m))]
    rfl
  | str l => exact ⟨rfl, rfl, by simp [tokD, PyData.depth, PyData.depthAll]⟩
  | sign c => exact ⟨rfl, rfl, by simp [tokD, PyData.depth, PyData.depthAll]⟩
theorem textFrom_up : ∀ (ts : List Str) (k : Nat) (acc : Str) (B : Nat), (∀ t ∈ ts, t.length ≤ B) → (textFrom k acc ts).length ≤ acc.length + ts.length * (B + 2)
  | [], k, acc, B, _ => by
    show acc.length ≤ _
    omega
  | t :: ts, k, acc, B, h => by
    have ih := textFrom_up ts (k + 1) (acc ++ (if k > 0 then ", " else "" : String) ++ t) B (fun x hx => h x (List.mem_cons_of_mem _ hx))
    have ht := h t List.mem_cons_self
    have e : (acc ++ (if k > 0 then ", " else "" : String) ++ t).length ≤ acc.length + 2 + t.length := by
      rw [strLen_append, strLen_append]
      have : ((if k > 0 then ", " else "" : String) : Str).length ≤ 2 := by split <;> decide
      omega
    show (textFrom (k + 1) (acc ++ (if k > 0 then ", " else "" : String) ++ t) ts).length ≤ acc.length + (ts.length + 1) * (B + 2)
    rw [Nat.add_mul]
    omega
theorem toksD_ok : ∀ {ts : List Tok}, (∀ t ∈ ts, menu t) → ts.length ≤ 20 → (PyData.list (ts.map tokD)).showable = true ∧ (PyData.list (ts.map tokD)).hasDict = false ∧ (PyData.list (ts.map tokD)).depth ≤ 60 ∧ (PyData.list (ts.map tokD)).shown.length ≤ sizeLine := by
  intro ts hm hl
  have sh : ∀ ts : List Tok, (∀ t ∈ ts, menu t) → PyData.showableAll (ts.map tokD) = true ∧ PyData.hasDictAll (ts.map tokD) = false ∧ PyData.depthAll (ts.map tokD) ≤ 3 ∧ ∀ x ∈ PyData.shownAll (ts.map tokD), x.length ≤ 100 := by
    intro ts
    induction ts with
    | nil => exact fun _ => ⟨rfl, rfl, by decide, fun _ h => by cases h⟩
    | cons t ts ih =>
      intro hm
      obtain ⟨h1, h2, h3, h4⟩ := ih (fun x hx => hm x (List.mem_cons_of_mem _ hx))
      obtain ⟨m1, m2, m3⟩ := tokD_more (hm t List.mem_cons_self)
      have m4 := tokD_shown (hm t List.mem_cons_self)
      refine ⟨?_, ?_, ?_, ?_⟩
      · show (PyData.showable (tokD t) && PyData.showableAll (ts.map tokD)) = true
        rw [m1, h1]
        rfl
      · show (PyData.hasDict (tokD t) || PyData.hasDictAll (ts.map tokD)) = false
        rw [m2, h2]
        rfl
      · show max (PyData.depth (tokD t)) (PyData.depthAll (ts.map tokD)) ≤ 3
        omega
      · intro x hx
        rcases List.mem_cons.mp hx with rfl | hx
        · exact m4
        · exact h4 x hx
  obtain ⟨h1, h2, h3, h4⟩ := sh ts hm
  have ln : ∀ ts : List Tok, (PyData.shownAll (ts.map tokD)).length = ts.length := by
    intro ts
    induction ts with
    | nil => rfl
    | cons t ts ih => show _ + 1 = _ + 1; rw [ih]
  refine ⟨by simpa only [PyData.showable] using h1, by simpa only [PyData.hasDict] using h2, by simp only [PyData.depth]; omega, ?_⟩
  simp only [PyData.shown]
  unfold listText
  rw [strLen_append]
  have := textFrom_up (PyData.shownAll (ts.map tokD)) 0 "[" 100 h4
  rw [ln] at this
  have e1 : (("[" : String) : Str).length = 1 := rfl
  have e2 : (("]" : String) : Str).length = 1 := rfl
  rw [e1] at this
  rw [e2]
  have : ts.length * 102 ≤ 20 * 102 := Nat.mul_le_mul_right _ hl
  exact smallL (by omega)
end K1

set_option maxRecDepth 100000
set_option maxHeartbeats 8000000
namespace K1
open PySem PySem.Spec PyProof.Rows L2 GD
/-- what holds all along the law -/
structure LI (b d wd PN PV : Addr) (ds : List Int) (H : Hp) (n : Nat) : Prop where
  box : Box H b d ds n
  tn : GxR.TabG H PN
  tv : GxR.TabG H PV
  wo : H wd = some (.tup (kw13.map V.str))
section
variable {b d wd PN PV : Addr} {ds : List Int} {H H' : Hp} {n n' : Nat}
theorem tab_ne_lst {P b : Addr} {H : Hp} {xs : List V} (t : GxR.TabG H P) (h : H b = some (.lst xs)) : b ≠ P := fun e => by
  obtain ⟨ps, h2, _⟩ := t
  rw [e, h2] at h
  cases h
theorem LI.bs (x : LI b d wd PN PV ds H n) (y : Bs b d ds H H' n') : LI b d wd PN PV ds H' n' := by
  have tab : ∀ {P}, GxR.TabG H P → GxR.TabG H' P := fun {P} t => by
    have ne := tab_ne_lst t x.box.1
    obtain ⟨ps, h, r⟩ := t
    exact ⟨ps, y.bx _ _ ne.symm h, r⟩
  exact ⟨y.box, tab x.tn, tab x.tv, y.bx _ _ (ne_of x.wo x.box.1 (fun z => by cases z)) x.wo⟩
theorem LI.kp {P Q : Addr} (x : LI b d wd PN PV ds H n) (k : Kp P H H') (hP : GxR.TabG H P) (o : ∀ R, (R = PN ∨ R = PV) → R = P ∨ R ≠ P) : LI b d wd PN PV ds H' n := by
  have tab : ∀ {R}, (R = PN ∨ R = PV) → GxR.TabG H R → GxR.TabG H' R := fun {R} hr t => by
    rcases o R hr with e | ne
    · rw [e]
      exact k.1
    · obtain ⟨ps, h, r⟩ := t
      exact ⟨ps, k.2 _ _ ne h, r⟩
  obtain ⟨h1, h2, h3⟩ := x.box
  exact ⟨⟨k.2 _ _ (tab_ne_lst hP h1) h1, k.2 _ _ (tab_ne_lst hP h2) h2, h3⟩, tab (.inl rfl) x.tn, tab (.inr rfl) x.tv, k.2 _ _ (tup_ne_tab hP x.wo) x.wo⟩
theorem LI.kn (x : LI b d wd PN PV ds H n) (k : Kp PN H H') (h : PN ≠ PV) : LI b d wd PN PV ds H' n := x.kp (Q := b) k x.tn (fun R hr => by
  rcases hr with rfl | rfl
  · exact .inl rfl
  · exact .inr h.symm)
theorem LI.kv (x : LI b d wd PN PV ds H n) (k : Kp PV H H') (h : PN ≠ PV) : LI b d wd PN PV ds H' n := x.kp (Q := b) k x.tv (fun R hr => by
  rcases hr with rfl | rfl
  · exact .inr h
  · exact .inl rfl)
theorem LI.new {l : Addr} {o : HO} (x : LI b d wd PN PV ds H n) (nl : H l = none) : LI b d wd PN PV ds (upd H l o) n := x.bs ((Bs.refl x.box).new nl)
theorem LI.draw (x : LI b d wd PN PV ds H n) : LI b d wd PN PV ds (upd H b (.lst [.ref d, .int ((n + 1 : Nat) : Int)])) (n + 1) := x.bs (Bs.refl x.box).draw
end

def bads : List (List Nat) := (["abcdefg", "100000", "007", "\"", "\"xxxxxxxxxxxxxxxxxxxxx\"", "A", "_", "'", "{", "a.b", "[", ">", "00"] : List Str).map fun z => z.cps.toList
def badOne (w : List Nat) : Bool := match w with
  | [] => false
  | c :: r => c != 32 && (lexC c r).isNone
theorem bads_one : ∀ w ∈ bads, badOne w = true ∨ w = [97, 46, 98] := by decide +kernel
theorem dot : ∀ T : List Nat, Lex (97 :: 46 :: T) none := fun T => by
  have r : run LET (97 :: 46 :: T) = 1 := run_all (cs := LET) (a := [97]) (b := 46 :: T) (by decide) (fun c r e => by cases e; decide)
  have e1 : lexC 97 (46 :: T) = some (.word [97], 1) := by
    unfold lexC
    rw [if_pos (by decide), r, if_pos (by decide)]
    rfl
  have e2 : lexC 46 T = none := by
    unfold lexC
    rw [if_neg (by decide), if_neg (by decide), if_neg (by decide), if_neg (by decide)]
  exact Lex.tok (o := none) (by decide) e1 (.bad (by decide) e2)
theorem bad_tail : ∀ w ∈ bads, Lex (32 :: w) none := fun w hw => by
  rcases bads_one w hw with h | rfl
  · cases w with
    | nil => cases h
    | cons c r =>
      unfold badOne at h
      rw [Bool.and_eq_true] at h
      have h2 : lexC c r = none := by simpa using h.2
      exact .sp (.bad (bne_iff_ne.mp h.1) h2)
  · exact .sp (dot [98])
theorem odd_none {T : List Nat} (h : q34 T % 2 = 0) : Lex (34 :: 32 :: T) none := by
  obtain ⟨o, ho⟩ := lex_all _ (34 :: 32 :: T) (Nat.le_refl _)
  cases o with
  | none => exact ho
  | some ts =>
    have e := lex_even ho (fun z => by cases z)
    have e2 : q34 (34 :: 32 :: T) = q34 T + 1 := by
      show q34 ([34] ++ ([32] ++ T)) = _
      rw [q34_app, q34_app]
      have e3 : q34 [34] = 1 := rfl
      have e4 : q34 [32] = 0 := rfl
      omega
    omega
theorem alien {c : Nat} {r : List Nat} (h : c ∉ LET ∧ c ∉ DIG ∧ c ≠ 34 ∧ c ∉ SGN ∧ c ≠ 32) : Lex (c :: r) none := by
  obtain ⟨h1, h2, h3, h4, h5⟩ := h
  refine .bad h5 ?_
  unfold lexC
  rw [if_neg h1, if_neg h2, if_neg h3, if_neg h4]
theorem long_word {w T : List Nat} {c : Nat} {r : List Nat} (e : w = c :: r) (h : ∀ x ∈ w, x ∈ LET) (hl : ¬ w.length ≤ 6) : Lex (w ++ 32 :: T) none := by
  have q : run LET (w ++ 32 :: T) = w.length := run_all h (fun c r e => by cases e; decide)
  subst e
  refine .bad (fun z => absurd (h c List.mem_cons_self) (by rw [z]; decide)) ?_
  show lexC c (r ++ 32 :: T) = none
  unfold lexC
  rw [if_pos (h c List.mem_cons_self)]
  have q : run LET (c :: (r ++ 32 :: T)) = (c :: r).length := q
  rw [q, if_neg hl]
theorem bad_num {w T : List Nat} {c : Nat} {r : List Nat} (e : w = c :: r) (h : ∀ x ∈ w, x ∈ DIG) (hl : ¬ (w.length ≤ 5 ∧ w = numT (val w))) : Lex (w ++ 32 :: T) none := by
  have q : run DIG (w ++ 32 :: T) = w.length := run_all h (fun c r e => by cases e; decide)
  subst e
  have hc := h c List.mem_cons_self
  refine .bad (fun z => absurd hc (by rw [z]; decide)) ?_
  show lexC c (r ++ 32 :: T) = none
  unfold lexC
  rw [if_neg (let_dig hc), if_pos hc]
  have q : run DIG (c :: (r ++ 32 :: T)) = (c :: r).length := q
  have e2 : (c :: (r ++ 32 :: T)).take (c :: r).length = c :: r := take_all (a := c :: r) (b := 32 :: T)
  rw [q, e2, if_neg hl]
theorem bad_head {T : List Nat} (h : q34 T % 2 = 0) : ∀ w ∈ bads, Lex (w ++ 32 :: T) none := by
  have key : ∀ w ∈ bads, w = [34] ∨ w = 34 :: (List.replicate 21 120 ++ [34]) ∨ w = [97, 46, 98] ∨ (w.length = 7 ∧ ∀ x ∈ w, x ∈ LET) ∨ ((∀ x ∈ w, x ∈ DIG) ∧ w ≠ [] ∧ ¬ (w.length ≤ 5 ∧ w = numT (val w))) ∨ (w.length = 1 ∧ ∀ x ∈ w, x ∉ LET ∧ x ∉ DIG ∧ x ≠ 34 ∧ x ∉ SGN ∧ x ≠ 32) := by decide +kernel
  intro w hw
  rcases key w hw with rfl | rfl | rfl | ⟨h1, h2⟩ | ⟨h1, h2, h3⟩ | ⟨h1, h2⟩
  · exact odd_none h
  · refine .bad (by decide) ?_
    unfold lexC
    have e : toQ (List.replicate 21 120 ++ [34] ++ 32 :: T) = 21 := by
      have x1 : (List.replicate 21 120 ++ [34] ++ 32 :: T)[21]? = some 34 := rfl
      exact toQ_some x1 (by
        have : (List.replicate 21 120 ++ [34] ++ 32 :: T).take 21 = List.replicate 21 120 := rfl
        rw [this]
        decide)
    rw [if_neg (by decide), if_neg (by decide), if_pos rfl]
    refine if_neg (fun z => ?_)
    have z2 : toQ (List.replicate 21 120 ++ [34] ++ 32 :: T) ≤ 20 := z.2.1
    rw [e] at z2
    exact absurd z2 (by decide)
  · exact dot _
  · cases w with
    | nil => cases h1
    | cons c r => exact long_word rfl h2 (by omega)
  · cases w with
    | nil => exact absurd rfl h2
    | cons c r => exact bad_num rfl h1 h3
  · cases w with
    | nil => cases h1
    | cons c r => exact alien (h2 c List.mem_cons_self)

/-! ### the drawn texts -/
theorem spell_even {t : Tok} (g : good t) : q34 (spell t) % 2 = 0 := by
  cases t with
  | word l => rw [show spell (.word l) = l from rfl, q34_none (fun z => absurd (g.2.2 _ z) (by decide))]
  | num n => rw [show spell (.num n) = numT n from rfl, q34_none (fun z => absurd ((numT_dig (show n ≤ 99999 from g)).2.2.1 _ z) (by decide))]
  | str l =>
    show q34 ([34] ++ l ++ [34]) % 2 = 0
    have n : q34 l = 0 := q34_none (fun z => by
      have := g.2 _ z
      revert this
      decide)
    rw [q34_app, q34_app, n]
    rfl
  | sign c =>
    have hd : ∀ c ∈ SGN, c ≠ 34 := by decide
    show q34 [c] % 2 = 0
    rw [q34_none (fun z => hd c g (List.mem_singleton.mp z).symm)]
theorem joined_even : ∀ l : List (Tok × Nat), (∀ p ∈ l, good p.1) → q34 (joined l) % 2 = 0
  | [], _ => rfl
  | (t, g) :: r, h => by
    show q34 (spell t ++ List.replicate g 32 ++ joined r) % 2 = 0
    have h1 := spell_even (h (t, g) List.mem_cons_self)
    have h2 := joined_even r (fun p hp => h p (List.mem_cons_of_mem _ hp))
    have h3 : q34 (List.replicate g 32) = 0 := q34_none (fun z => absurd (List.eq_of_mem_replicate z) (by decide))
    rw [q34_app, q34_app, h3]
    have h1 : q34 (spell t) % 2 = 0 := h1
    omega
section
variable {g0 : Nat} {ts : List Tok} {gs : List Nat}
theorem zip_good (hm : ∀ t ∈ ts, menu t) : ∀ p ∈ ts.zip gs, good p.1 := fun p hp => menu_good (hm _ (List.of_mem_zip hp).1)
theorem text_lex (hm : ∀ t ∈ ts, menu t) (hl : gs.length = ts.length) (hc : ∀ i t u, ts[i]? = some t → ts[i + 1]? = some u → gs[i]? = some 0 → ¬ clash t u) : Lex (textOf g0 ts gs) (some ts) := by
  have h := lex_joined (tail := []) .nil (fun c r e => by cases e) (ts.zip gs) (zip_good hm) (gapped_of ts gs (fun t ht => menu_good (hm t ht)) hc)
  rw [List.append_nil] at h
  have e : (some ([] : List Tok)).map ((ts.zip gs).map (·.1) ++ ·) = some ts := by
    show some ((ts.zip gs).map (·.1) ++ []) = _
    rw [List.append_nil]
    have : (ts.zip gs).map Prod.fst = ts := List.map_fst_zip (by omega)
    exact congrArg some this
  rw [e] at h
  exact lex_blanks h g0
theorem text_tail {w : List Nat} (hw : w ∈ bads) (hm : ∀ t ∈ ts, menu t) (hc : ∀ i t u, ts[i]? = some t → ts[i + 1]? = some u → gs[i]? = some 0 → ¬ clash t u) : Lex (textOf g0 ts gs ++ 32 :: w) none := by
  have h := lex_joined (bad_tail w hw) (fun c r e => by cases e; rfl) (ts.zip gs) (zip_good hm) (gapped_of ts gs (fun t ht => menu_good (hm t ht)) hc)
  unfold textOf
  rw [List.append_assoc]
  exact lex_blanks h g0
theorem text_head {w : List Nat} (hw : w ∈ bads) (hm : ∀ t ∈ ts, menu t) : Lex (w ++ 32 :: textOf g0 ts gs) none := by
  refine bad_head ?_ w hw
  unfold textOf
  have h3 : q34 (List.replicate g0 32) = 0 := q34_none (fun z => absurd (List.eq_of_mem_replicate z) (by decide))
  rw [q34_app, h3, Nat.zero_add]
  exact joined_even _ (zip_good hm)
end
end K1

set_option maxRecDepth 100000
set_option maxHeartbeats 16000000
namespace K1
open PySem PySem.Spec PyProof.Rows L2 GD
section
variable {P : Program} {w : World} {K : PySem.W.Frag} {mg : Str → Option Value} {base : Heap}

/-- a def of the module: where it stands, and its promise -/
structure Df (P : Program) (w : World) (K : PySem.W.Frag) (mg : Str → Option Value) (base : Heap) (x : Str) (k : Nat) (ps : List Str) (sp : Sp) (f : Addr) (fd : FuncData) : Prop where
  ok : FnOk P w K mg base CX0 k f fd ps sp
  m : mg x = some (.ref f)
  kp : PySem.W.keepIn K (.ref f) = true
  b : Binds K fd ps []
theorem LI.wr {b d wd PN PV D : Addr} {ds : List Int} {H : Hp} {n : Nat} {xs : List V} {o : HO} (x : LI b d wd PN PV ds H n) (hD : H D = some (.lst xs)) (nb : D ≠ b) (nd : D ≠ d) : LI b d wd PN PV ds (upd H D o) n := by
  have tab : ∀ {R}, GxR.TabG H R → GxR.TabG (upd H D o) R := fun {R} t => by
    have ne := tab_ne_lst t hD
    obtain ⟨ps, h, r⟩ := t
    exact ⟨ps, by rw [upd_ne ne.symm]; exact h, r⟩
  obtain ⟨h1, h2, h3⟩ := x.box
  exact ⟨⟨by rw [upd_ne nb.symm]; exact h1, by rw [upd_ne nd.symm]; exact h2, h3⟩, tab x.tn, tab x.tv, by rw [upd_ne (ne_of x.wo hD (fun z => by cases z))]; exact x.wo⟩
theorem boolOk (c : Bool) : (PyData.bool c) ≠ .none ∧ (PyData.bool c).showable = true ∧ (PyData.bool c).hasDict = false ∧ (PyData.bool c).depth ≤ 60 ∧ (PyData.bool c).shown.length ≤ sizeLine := by
  refine ⟨(fun z => by cases z), by simp only [PyData.showable], by simp only [PyData.hasDict], by simp only [PyData.depth]; omega, ?_⟩
  cases c <;> simp only [PyData.shown] <;> decide
theorem and_ok {A B : Prop} {c : Bool} (e : c = true) (h : A) : if c = true then A else B := by
  rw [e]
  exact iteT h
theorem wait5 : Lex (("wait5" : Str)).cps.toList (some [.word ("wait" : Str).cps.toList, .num 5]) := by
  have h := lex_joined (tail := []) .nil (fun c r e => by cases e) [(.word ("wait" : Str).cps.toList, 0), (.num 5, 0)] (by
    intro p hp
    rcases List.mem_cons.mp hp with rfl | hp
    · exact ⟨by decide +kernel, by decide +kernel, by decide +kernel⟩
    · rw [List.mem_singleton.mp hp]
      exact (show 5 ≤ 99999 by decide)) ⟨fun _ => (by
      intro c r e
      have h5 : numT 5 = [53] := by decide +kernel
      have e2 : numT 5 ++ ([] ++ []) = c :: r := e
      rw [h5] at e2
      cases e2
      decide), trivial⟩
  have h5 : numT 5 = [53] := by decide +kernel
  have e : joined [(.word ("wait" : Str).cps.toList, 0), (.num 5, 0)] ++ [] = (("wait5" : Str)).cps.toList := by
    show ("wait" : Str).cps.toList ++ [] ++ (numT 5 ++ [] ++ []) ++ [] = _
    rw [h5]
    decide +kernel
  rw [e] at h
  exact h
def names21 : List V := ([.str "a", .str "abcdef", .str "abcdefg", .str "", .str "A", .str "a1", .str "a b", .str "lets"] : List V) ++ kw13.map V.str
def x21 : Str := ⟨(List.replicate (Int.toNat 21) (Str.ofString "x").cps).foldl (· ++ ·) #[]⟩
def x20 : Str := ⟨(List.replicate (Int.toNat 20) (Str.ofString "x").cps).foldl (· ++ ·) #[]⟩
def vals10 : List V := [.int 0, .int 99999, .int 100000, .int (-99999), .int (-100000), .str "", .str x20, .str x21, .str "a\"b", .str "(;)"]
def noVals : List V := [.int 100000, .int (-100000), .str x21, .str "a\"b"]
theorem name_same : ∀ v ∈ names21, ∃ z : Str, v = .str z ∧ z.length ≤ 5000 ∧ nameB z = inV (.str z) [.str "a", .str "abcdef", .str "lets"] := by
  have : ∀ v ∈ names21, (match v with | .str z => decide (z.length ≤ 5000) && (nameB z == inV (.str z) [.str "a", .str "abcdef", .str "lets"]) | _ => false) = true := by decide +kernel
  intro v hv
  have q := this v hv
  cases v with
  | str z =>
    have q : (decide (z.length ≤ 5000) && (nameB z == inV (.str z) [.str "a", .str "abcdef", .str "lets"])) = true := q
    rw [Bool.and_eq_true] at q
    exact ⟨z, rfl, of_decide_eq_true q.1, beq_iff_eq.mp q.2⟩
  | _ => cases q
theorem val_same : ∀ v ∈ vals10, ((∃ z : Str, v = .str z ∧ z.length ≤ 5000 ∧ strV z = !inV v noVals) ∨ ∃ i : Int, v = .int i ∧ decide (-99999 ≤ i ∧ i ≤ 99999) = !inV v noVals) ∧ flatV v = true := by
  have : ∀ v ∈ vals10, (match v with | .str z => decide (z.length ≤ 5000) && (strV z == !inV v noVals) | .int i => (decide (-99999 ≤ i ∧ i ≤ 99999) == !inV v noVals) | _ => false) = true := by decide +kernel
  intro v hv
  have q := this v hv
  cases v with
  | str z =>
    have q : (decide (z.length ≤ 5000) && (strV z == !inV (.str z) noVals)) = true := q
    rw [Bool.and_eq_true] at q
    exact ⟨.inl ⟨z, rfl, of_decide_eq_true q.1, beq_iff_eq.mp q.2⟩, rfl⟩
  | int i => exact ⟨.inr ⟨i, rfl, beq_iff_eq.mp q⟩, rfl⟩
  | _ => cases q

theorem strsDp {K : PySem.W.Frag} {H : Hp} : ∀ l : List Str, DpAll K H (l.map V.str) (l.map PyData.str)
  | [] => .nil
  | x :: l => .cons (.str x) (strsDp l)
theorem ne_ok {A B : Prop} {c : Bool} (e : c = true) (h : B) : if (!c) = true then A else B := by
  rw [e]
  exact iteF h
def spLaw (K : PySem.W.Frag) (PN PV : Addr) : Sp := fun vs H Q _ => ∃ (a : Addr) (ns : List Int), vs = [.ref a] ∧ SqL K H a (ns.map V.int) ∧ GxR.TabG H PN ∧ GxR.TabG H PV ∧ PN ≠ PV ∧ ∀ H', Q (.bl true) H'
theorem scLaw : FnScope ["script", "box", "words", "turn", "tokens", "k", "text", "bad", "name", "value"] ["script"] (defScope sLaw) := ⟨rfl, rfl, rfl, by decide +kernel, rfl, by decide +kernel, by decide +kernel⟩
theorem ok_law {f fdi fdr fto fjo fal fsp fna fva PN PV : Addr} {fd ddi ddr dto djo dal dsp dna dva : FuncData} (F : Fun K "law" "law" sLaw f fd) (T : Txt K mg)
    (GD' : Df P w K mg base "_law_digits" 2 ["script", "first", "last"] (spDigits K) fdi ddi) (GR : Df P w K mg base "_law_draw" 1 ["box", "many"] spDraw fdr ddr)
    (GT : Df P w K mg base "_law_token" 2 ["box"] spLTok fto dto) (GJ : Df P w K mg base "_law_joined" 2 ["box", "tokens"] spJoin fjo djo)
    (FA : FnG P w K mg base CX0 1 fal dal ["one", "two"] (spAlike K)) (ma : mg "_law_alike" = some (.ref fal)) (ka : PySem.W.keepIn K (.ref fal) = true) (ba : Binds K dal ["one", "two"] [])
    (GS : Df P w K mg base "split" 5 ["line"] (spSplit PV) fsp dsp) (GN : Df P w K mg base "is_name" 1 ["text"] (spName PN) fna dna) (GV : Df P w K mg base "is_value" 2 ["value"] (spValue PV) fva dva) :
    FnG P w K mg base CX0 6 f fd ["script"] (spLaw K PN PV) := by
  have sc := scLaw
  obtain ⟨tn1, gn1⟩ := T.NAME_MOST
  obtain ⟨tn2, gn2⟩ := T.NUMBER_MOST
  obtain ⟨tn3, gn3⟩ := T.STRING_MOST
  obtain ⟨ra, gr, hres⟩ := T.RESERVED
  refine okG F sc (fun vs H Q E h => ?_) (fun cdv A outer s H vs Q E hgd hr h => ?_)
  · obtain ⟨a, ns, rfl, _⟩ := h
    rfl
  · obtain ⟨a, ns, rfl, hS, tn, tv, nPP, q⟩ := h
    have hr1 := hr.mono (show 1 ≤ 5 by decide)
    have hr2 := hr.mono (show 2 ≤ 5 by decide)
    refine ⟨_, (pss_cons (ps_set (i := 1) sc.nd rfl (Or.inr rfl) (pe_lst (pa_cons (pe_call GD'.ok hr2 (by rfl) GD'.m GD'.kp GD'.b .nil pass0 (pa_cons (pv 0) (pa_cons pe_int (pa_cons pe_int pa_nil)))) (pa_cons pe_int pa_nil))))
(pss_cons (ps_set (i := 2) sc.nd rfl (.inl rfl) (pe_tup (pa_cons pe_str (pa_cons pe_str (pa_cons pe_str (pa_cons pe_str (pa_cons pe_str (pa_cons pe_str (pa_cons pe_str (pa_cons pe_str (pa_cons pe_str (pa_cons pe_str (pa_cons pe_str (pa_cons pe_str (pa_cons pe_str pa_nil)))))))))))))))
(pss_cons (ps_if (PW.pt (pw_or (pt_cmpR (op_neD hr.units) (pe_glob (v := .ref ra) rfl gr rfl) (pv 2) (nomark _)) (pw_or1 (pt_cmpR (op_neD hr.units) (pe_tup (pa_cons (pe_gint rfl gn1) (pa_cons (pe_gint rfl gn2) (pa_cons (pe_gint rfl gn3) pa_nil)))) (pe_tup (pa_cons pe_int (pa_cons pe_int (pa_cons pe_int pa_nil)))) (nomark _)))))
(pss_one (ps_ret pe_bl)) pss_nil)
(pss_cons (ps_for PassesOwn.never rfl (pi_range1 rfl T.range (pa_cons pe_int pa_nil)) (pg_name (i := 3) sc.nd rfl (.inl rfl))
(pss_cons (ps_setLc (i := 4) (own := [("k", 5)]) (g := gName 5) (tt := tYes) rfl sc.nd rfl rfl (sw_true rfl rfl rfl (by decide +kernel)) (pi_range1 rfl T.range (pa_cons (pe_call GR.ok hr1 (by rfl) GR.m GR.kp GR.b .nil pass0 (pa_cons (pv 1) (pa_cons pe_int pa_nil))) pa_nil))
  (blkOk_by (own := [("k", 5)]) (N := ["script", "box", "words", "turn", "tokens", "k", "text", "bad", "name", "value"]) (sc := defScope sLaw) (by decide +kernel)) (fun _ _ _ _ _ => pg_name (i := 5) sc.nd rfl (Or.inl rfl)) (fun _ _ _ _ _ => pts_nil)
  (fun _ _ _ _ _ => pe_call GT.ok hr2 (by rfl) GT.m GT.kp GT.b .nil pass0 (pa_cons (pv 1) pa_nil)))
(pss_cons (ps_set (i := 6) sc.nd rfl (.inl rfl) (pe_call GJ.ok hr2 (by rfl) GJ.m GJ.kp GJ.b .nil pass0 (pa_cons (pv 1) (pa_cons (pv 4) pa_nil))))
(pss_cons (ps_if (pt_not (pt_val (pe_callG FA hgd hr1 (by rfl) ma ka ba .nil pass0 (pa_cons (pe_call GS.ok hr (by rfl) GS.m GS.kp GS.b .nil pass0 (pa_cons (pv 6) pa_nil)) (pa_cons (pv 4) pa_nil)))))
(pss_one (ps_ret pe_bl)) pss_nil)
(pss_cons (ps_set (i := 7) sc.nd rfl (.inl rfl) (pe_ix ix_list (pe_lst (pa_cons pe_str (pa_cons pe_str (pa_cons pe_str (pa_cons pe_str (pa_cons (pe_op op_add_str (pe_op op_add_str pe_str (pe_op op_rep_str pe_str pe_int)) pe_str) (pa_cons pe_str (pa_cons pe_str (pa_cons pe_str (pa_cons pe_str (pa_cons pe_str (pa_cons pe_str (pa_cons pe_str (pa_cons pe_str pa_nil)))))))))))))) (pe_call GR.ok hr1 (by rfl) GR.m GR.kp GR.b .nil pass0 (pa_cons (pv 1) (pa_cons pe_int pa_nil))) (fun _ _ => rfl)))
(pss_cons (ps_if (PW.pt (pw_or (pt_cmpR op_notN (pe_call GS.ok hr (by rfl) GS.m GS.kp GS.b .nil pass0 (pa_cons (pe_op op_add_str (pe_op op_add_str (pv 6) pe_str) (pv 7)) pa_nil)) pe_non (nomark _)) (pw_or1 (pt_cmpR op_notN (pe_call GS.ok hr (by rfl) GS.m GS.kp GS.b .nil pass0 (pa_cons (pe_op op_add_str (pe_op op_add_str (pv 7) pe_str) (pv 6)) pa_nil)) pe_non (nomark _)))))
(pss_one (ps_ret pe_bl)) pss_nil)
(pss_cons (ps_set (i := 8) sc.nd rfl (.inl rfl) (pe_ix ix_list (pe_op op_cat (pe_lst (pa_cons pe_str (pa_cons pe_str (pa_cons pe_str (pa_cons pe_str (pa_cons pe_str (pa_cons pe_str (pa_cons pe_str (pa_cons pe_str pa_nil))))))))) (pe_callTy call_list_of (by rfl) T.blist (by decide +kernel) (pa_cons (pv 2) pa_nil))) (pe_call GR.ok hr1 (by rfl) GR.m GR.kp GR.b .nil pass0 (pa_cons (pv 1) (pa_cons pe_int pa_nil))) (fun _ _ => rfl)))
(pss_cons (ps_if (pt_not (pt_val (pe_callG FA hgd hr1 (by rfl) ma ka ba .nil pass0 (pa_cons (pe_call GN.ok hr1 (by rfl) GN.m GN.kp GN.b .nil pass0 (pa_cons (pv 8) pa_nil)) (pa_cons (pe_cmpR op_in_seq (pv 8) (pe_tup (pa_cons pe_str (pa_cons pe_str (pa_cons pe_str pa_nil)))) rfl) pa_nil)))))
(pss_one (ps_ret pe_bl)) pss_nil)
(pss_cons (ps_set (i := 9) sc.nd rfl (.inl rfl) (pe_ix ix_list (pe_lst (pa_cons pe_int (pa_cons pe_int (pa_cons pe_int (pa_cons (pe_un un_neg pe_int) (pa_cons (pe_un un_neg pe_int) (pa_cons pe_str (pa_cons (pe_op op_rep_str pe_str pe_int) (pa_cons (pe_op op_rep_str pe_str pe_int) (pa_cons pe_str (pa_cons pe_str pa_nil))))))))))) (pe_call GR.ok hr1 (by rfl) GR.m GR.kp GR.b .nil pass0 (pa_cons (pv 1) (pa_cons pe_int pa_nil))) (fun _ _ => rfl)))
(pss_one (ps_if (pt_not (pt_val (pe_callG FA hgd hr1 (by rfl) ma ka ba .nil pass0 (pa_cons (pe_call GV.ok hr2 (by rfl) GV.m GV.kp GV.b .nil pass0 (pa_cons (pv 9) pa_nil)) (pa_cons (pe_cmpR op_notIn_seq (pv 9) (pe_tup (pa_cons pe_int (pa_cons (pe_un un_neg pe_int) (pa_cons (pe_op op_rep_str pe_str pe_int) (pa_cons pe_str pa_nil))))) rfl) pa_nil)))))
(pss_one (ps_ret pe_bl)) pss_nil)))))))))))
(pss_one (ps_ret (pe_and (pe_cmpR (op_eqD hr.units) (pe_call GS.ok hr (by rfl) GS.m GS.kp GS.b .nil pass0 (pa_cons pe_str pa_nil)) (pe_lst pa_nil) (nomark _)) (pe_and (pe_cmpR (op_eqD hr.units) (pe_call GS.ok hr (by rfl) GS.m GS.kp GS.b .nil pass0 (pa_cons pe_str pa_nil)) (pe_lst pa_nil) (nomark _)) (pe_one (pe_cmpR (op_eqD hr.units) (pe_call GS.ok hr (by rfl) GS.m GS.kp GS.b .nil pass0 (pa_cons pe_str pa_nil)) (pe_lst (pa_cons (pe_tup (pa_cons pe_str (pa_cons pe_str pa_nil))) (pa_cons (pe_tup (pa_cons pe_str (pa_cons pe_int pa_nil))) pa_nil))) (nomark _))))))))))), ?_⟩
    refine ⟨_, rfl, a, ns, rfl, hS, fun H1 d ds s1 nd ed ld => ⟨two_le, fun b nb => ?_⟩⟩
    have tn1' := (Same.kp s1 tn).1
    have tv1' := (Same.kp s1 tv).1
    have bx1 : Box (upd H1 b (.lst [.ref d, .int 0])) b d ds 0 := ⟨upd_same, by rw [upd_ne (ne_of_none ed nb)]; exact ed, ld⟩
    have tn2' := (Same.kp (Same.lst (o := .lst [.ref d, .int 0]) (Same.refl H1) nb) tn1').1
    have tv2' := (Same.kp (Same.lst (o := .lst [.ref d, .int 0]) (Same.refl H1) nb) tv1').1
    refine ⟨by show 13 ≤ sizeLine; decide, fun wd nw => ?_⟩
    have s3 : Same (upd H1 b (.lst [.ref d, .int 0])) (upd (upd H1 b (.lst [.ref d, .int 0])) wd (.tup (kw13.map V.str))) := Same.lst (Same.refl _) nw
    have li0 : LI b d wd PN PV ds (upd (upd H1 b (.lst [.ref d, .int 0])) wd (.tup (kw13.map V.str))) 0 :=
      ⟨bx1.new nw, (Same.kp s3 tn2').1, (Same.kp s3 tv2').1, upd_same⟩
    refine ⟨_, rfl, .tuple (kw13.map PyData.str), .tuple (kw13.map PyData.str), .tup (hres _) (strsDp kw13), .tup (SqT.of li0.wo) (strsDp kw13), by decide +kernel, by decide +kernel, _, rfl, ne_ok (by decide +kernel) ?_⟩
    refine ⟨by show 3 ≤ sizeLine; decide, fun p1 np1 => ⟨by show 3 ≤ sizeLine; decide, fun p2 np2 => ?_⟩⟩
    have li1 := li0.new (o := .tup [V.int 6, V.int 99999, V.int 20]) np1
    have li2 := li1.new (o := .tup [V.int 6, V.int 99999, V.int 20]) np2
    have n12 : p1 ≠ p2 := ne_of_none (upd_same (H := upd (upd H1 b (.lst [.ref d, .int 0])) wd (.tup (kw13.map V.str))) (a := p1) (o := .tup [V.int 6, V.int 99999, V.int 20])) np2
    refine ⟨.tuple [.int 6, .int 99999, .int 20], .tuple [.int 6, .int 99999, .int 20], .tup (SqT.of (xs := [V.int 6, V.int 99999, V.int 20]) (by rw [upd_ne n12, upd_same])) (.cons (.int _) (.cons (.int _) (.cons (.int _) .nil))), .tup (SqT.of upd_same) (.cons (.int _) (.cons (.int _) (.cons (.int _) .nil))), by decide +kernel, by decide +kernel, _, rfl, ne_ok (by decide +kernel) ?_⟩
    refine ⟨_, rfl, by decide, by decide, for_range (lo := 0) (n := 6) (fun i σ H' => ∃ (n : Nat) (y3 y4 y5 y6 y7 y8 y9 : Option V), σ = [some (.ref a), some (.ref b), some (.ref wd), y3, y4, y5, y6, y7, y8, y9] ∧ LI b d wd PN PV ds H' n)
      ⟨0, none, none, none, none, none, none, none, rfl, li2⟩ ?_ ?_⟩
    · rintro i σ Ha hi ⟨n, y3, y4, y5, y6, y7, y8, y9, rfl, la⟩
      -- the tokens
      refine ⟨_, rfl, b, d, ds, n, 15, rfl, la.box, by decide, fun r h0 h1 => ?_⟩
      have lb := la.draw
      obtain ⟨m, rfl, hm⟩ := idx (m := 15) h0 h1
      refine ⟨(m : Nat), rfl, by omega, by omega, fun D nD => ?_⟩
      have lc := lb.new (o := .lst []) nD
      have nDb : D ≠ b := fun z => by rw [z, lb.box.1] at nD; cases nD
      have nDd : D ≠ d := (ne_of_none lb.box.2.1 nD).symm
      refine lc_range (lo := 0) (n := ((m : Nat) : Int).toNat) (fun k H' => ∃ (n' : Nat) (acc : List V) (ts : List Tok), LI b d wd PN PV ds H' n' ∧ H' D = some (.lst acc) ∧ TokL H' acc ts ∧ (∀ t ∈ ts, menu t) ∧ ts.length = k)
        ⟨n + 1, [], [], lc, upd_same, .nil, (fun _ h => by cases h), rfl⟩ ?_ ?_
      · rintro k Hb hk ⟨n', acc, ts, lk, eD, tk, mk, lk2⟩
        refine ⟨rfl, _, rfl, b, d, ds, n', rfl, lk.box, fun Hc p n'' t bs np hp mt => ?_⟩
        have eD' : Hc D = some (.lst acc) := bs.bx _ _ nDb eD
        have tk' := tk.bx lk.box.1 bs.bx
        refine ⟨acc, eD', ?_, n'', acc ++ [.ref p], ts ++ [t], ?_, upd_same, ?_, ?_, ?_⟩
        · rw [tk.len]
          exact Nat.lt_of_le_of_lt (show ts.length ≤ 100 by omega) (by decide)
        · exact (lk.bs bs).wr eD' nDb nDd
        · refine Paired.snoc (tk'.imp fun q t h => ?_) ⟨p, rfl, ?_⟩
          · rw [upd_ne (ne_of h eD' (fun z => by cases z))]
            exact h
          · rw [upd_ne (ne_of hp eD' (fun z => by cases z))]
            exact hp
        · intro x hx
          rcases List.mem_append.mp hx with h | h
          · exact mk x h
          · rw [List.mem_singleton.mp h]
            exact mt
        · rw [List.length_append, lk2]
          rfl
      rintro Hb ⟨n', xs, ts, lk, eD, tk, mk, lts⟩
      have hts : ts.length ≤ 20 := by omega
      -- text = _law_joined(box, tokens)
      refine ⟨_, rfl, _, rfl, b, d, ds, n', D, xs, ts, rfl, lk.box, eD, tk, nDb, mk, hts, fun Hd n2 g0 gs bs1 hg0 hgl hg3 hcl => ?_⟩
      have ld1 := lk.bs bs1
      have eD1 : Hd D = some (.lst xs) := bs1.bx _ _ nDb eD
      have tk1 := tk.bx lk.box.1 bs1.bx
      have tl : (textOf g0 ts gs).length ≤ 501 := by
        have := textOf_len (g0 := g0) (gs := gs) hg0 mk hg3
        omega
      -- split(text) is the tokens
      refine ⟨_, rfl, textOf g0 ts gs, some ts, rfl, by omega, ld1.tv, text_lex mk hgl hcl, fun He kp => ⟨(fun z => by cases z), fun ts' D2 vs2 e nD2 eD2 tk2 => ?_⟩⟩
      cases e
      have le := ld1.kv kp nPP
      have eD1' : He D = some (.lst xs) := kp.2 _ _ (tab_ne_lst ld1.tv eD1) eD1
      have tk1' := tk1.kp ld1.tv kp
      obtain ⟨o1, o2, o3, o4⟩ := toksD_ok mk hts
      refine ⟨_, rfl, .ref D2, .ref D, .list (ts.map tokD), rfl, toksD_dp eD2 tk2, toksD_dp eD1' tk1', (fun z => by cases z), o1, o2, o3, o4, _, rfl, iteF ?_⟩
      -- bad
      refine ⟨_, _, rfl, rfl, by decide, by decide, by decide, by decide, by decide, by decide, _, _, rfl, rfl, by decide, _, _, rfl, rfl, by decide, by show 13 ≤ sizeLine; decide, fun l nl => ?_⟩
      have lf := le.new (o := .lst (bads.map fun z => V.str (S z))) nl
      refine ⟨_, rfl, b, d, ds, n2, 13, rfl, lf.box, by decide, fun r2 h2 h3 => ?_⟩
      have lg := lf.draw
      obtain ⟨j, rfl, hj⟩ := idx (m := 13) h2 h3
      obtain ⟨bd, ebd⟩ : ∃ z, bads[j]? = some z := ⟨_, List.getElem?_eq_getElem hj⟩
      have hbd := List.mem_of_getElem? ebd
      have bdl : bd.length ≤ 30 := by
        have : ∀ z ∈ bads, z.length ≤ 30 := by decide +kernel
        exact this bd hbd
      have nlb : l ≠ b := fun z => by rw [z, le.box.1] at nl; cases nl
      refine ⟨l, _, _, .str (S bd), rfl, rfl, SqL.of (xs := bads.map fun z => V.str (S z)) (by rw [upd_ne nlb, upd_same]; exact congrArg (fun l => some (HO.lst l)) (by decide +kernel)), atI_nat (by rw [List.getElem?_map, ebd]; rfl), ?_⟩
      have one : ∀ X : List Nat, X.length ≤ 600 → (S X).length + (" " : Str).length ≤ sizeLine := fun X h => by
        rw [S_len]
        show X.length + 1 ≤ sizeLine
        exact smallL (by omega)
      have spc : ∀ X : List Nat, S X ++ (" " : Str) = S (X ++ [32]) := fun X => S_app X [32]
      have two : ∀ X Y : List Nat, X.length + Y.length ≤ 600 → (S X ++ (" " : Str)).length + (S Y).length ≤ sizeLine := fun X Y h => by
        rw [spc, S_len, S_len, List.length_append]
        exact smallL (by simp; omega)
      have glue : ∀ X Y : List Nat, S X ++ (" " : Str) ++ S Y = S (X ++ 32 :: Y) := fun X Y => by
        rw [spc, S_app, List.append_assoc]
        rfl
      -- split(text + " " + bad), split(bad + " " + text)
      refine ⟨_, rfl, _, _, rfl, rfl, one _ (by omega), _, rfl, _, _, rfl, rfl, two _ _ (by omega), textOf g0 ts gs ++ 32 :: bd, none, by rw [glue]; rfl, by rw [List.length_append, List.length_cons]; omega, lg.tv, text_tail hbd mk hcl, fun Hh kp2 => ⟨fun _ => ?_, fun _ _ _ z => by cases z⟩⟩
      have lh := lg.kv kp2 nPP
      refine ⟨rfl, _, rfl, iteF ?_⟩
      refine ⟨_, rfl, _, _, rfl, rfl, one _ (by omega), _, rfl, _, _, rfl, rfl, two _ _ (by omega), bd ++ 32 :: textOf g0 ts gs, none, by rw [glue]; rfl, by rw [List.length_append, List.length_cons]; omega, lh.tv, text_head hbd mk, fun Hi kp3 => ⟨fun _ => ?_, fun _ _ _ z => by cases z⟩⟩
      have lii := lh.kv kp3 nPP
      refine ⟨rfl, _, rfl, iteF ?_⟩
      -- name
      refine ⟨by show 8 ≤ sizeLine; decide, fun l2 nl2 => ?_⟩
      have lj := lii.new (o := .lst [V.str "a", V.str "abcdef", V.str "abcdefg", V.str "", V.str "A", V.str "a1", V.str "a b", V.str "lets"]) nl2
      refine ⟨_, rfl, wd, _, rfl, .inr (SqT.of lj.wo), fun l3 nl3 => ?_⟩
      have lk3 := lj.new (o := .lst (kw13.map V.str)) nl3
      have n23 : l2 ≠ l3 := ne_of_none (upd_same (H := Hi) (a := l2) (o := .lst [V.str "a", V.str "abcdef", V.str "abcdefg", V.str "", V.str "A", V.str "a1", V.str "a b", V.str "lets"])) nl3
      refine ⟨l2, l3, _, kw13.map V.str, rfl, rfl, by rw [upd_ne n23, upd_same], upd_same, by show 21 ≤ sizeLine; decide, fun l4 nl4 => ?_⟩
      have ll := lk3.new (o := .lst names21) nl4
      refine ⟨_, rfl, b, d, ds, _, 21, rfl, ll.box, by decide, fun r4 h4 h5 => ?_⟩
      have lm := ll.draw
      obtain ⟨j4, rfl, hj4⟩ := idx (m := 21) h4 h5
      obtain ⟨v, ev⟩ : ∃ z, names21[j4]? = some z := ⟨_, List.getElem?_eq_getElem hj4⟩
      obtain ⟨z, rfl, hz, esame⟩ := name_same v (List.mem_of_getElem? ev)
      have nl4b : l4 ≠ b := fun z => by rw [z, lk3.box.1] at nl4; cases nl4
      refine ⟨l4, _, _, .str z, rfl, rfl, SqL.of (xs := names21) (by rw [upd_ne nl4b]; exact upd_same), atI_nat ev, ?_⟩
      -- is_name(name)
      refine ⟨_, rfl, z, rfl, hz, lm.tn, fun Hk kp4 => ?_⟩
      have ln := lm.kn kp4 nPP
      refine ⟨_, rfl, by show 3 ≤ sizeLine; decide, fun p3 np3 => ?_⟩
      have lo' := ln.new (o := .tup [V.str "a", V.str "abcdef", V.str "lets"]) np3
      refine ⟨p3, [V.str "a", V.str "abcdef", V.str "lets"], rfl, .inr (SqT.of upd_same), rfl, rfl, ?_⟩
      have edn : ∀ H9, Dp K H9 (.bl (inV (.str z) [.str "a", .str "abcdef", .str "lets"])) (.bool (nameB z)) := fun H9 => by rw [← esame]; exact .bl _
      obtain ⟨t1, t2, t3, t4, t5⟩ := boolOk (nameB z)
      refine ⟨.bl _, .bl _, .bool (nameB z), rfl, .bl _, edn _, t1, t2, t3, t4, t5, _, rfl, iteF ?_⟩
      -- value
      refine ⟨_, rfl, _, rfl, _, _, rfl, rfl, by decide, by decide, by decide, by decide, by decide, by decide, _, _, rfl, rfl, by decide, by decide, by decide, by decide, by decide, by decide, by show 10 ≤ sizeLine; decide, fun l5 nl5 => ?_⟩
      have lo2 := lo'.new (o := .lst vals10) nl5
      refine ⟨_, rfl, b, d, ds, _, 10, rfl, lo2.box, by decide, fun r6 h6 h7 => ?_⟩
      have lo := lo2.draw
      obtain ⟨j6, rfl, hj6⟩ := idx (m := 10) h6 h7
      obtain ⟨v6, ev6⟩ : ∃ z, vals10[j6]? = some z := ⟨_, List.getElem?_eq_getElem hj6⟩
      have nl5b : l5 ≠ b := fun z => by rw [z, lo'.box.1] at nl5; cases nl5
      refine ⟨l5, _, _, v6, rfl, rfl, SqL.of (xs := vals10) (by rw [upd_ne nl5b]; exact upd_same), atI_nat ev6, ?_⟩
      obtain ⟨hv6, hflat⟩ := val_same v6 (List.mem_of_getElem? ev6)
      rcases hv6 with ⟨z6, rfl, hz6, evs⟩ | ⟨i6, rfl, evs⟩
      · refine ⟨_, rfl, .inl ⟨z6, rfl, hz6, lo.tv, fun Hm kp5 => ?_⟩⟩
        have lp := lo.kv kp5 nPP
        refine ⟨_, rfl, _, rfl, _, _, rfl, rfl, by decide, by decide, by decide, by decide, by decide, by decide, by show 4 ≤ sizeLine; decide, fun p4 np4 => ?_⟩
        have lq := lp.new (o := .tup noVals) np4
        refine ⟨p4, noVals, rfl, .inr (SqT.of upd_same), hflat, by decide +kernel, ?_⟩
        have edp : ∀ H9, Dp K H9 (.bl (!inV (.str z6) noVals)) (.bool (strV z6)) := fun H9 => by rw [← evs]; exact .bl _
        obtain ⟨u1, u2, u3, u4, u5⟩ := boolOk (strV z6)
        refine ⟨.bl _, .bl _, .bool (strV z6), rfl, .bl _, edp _, u1, u2, u3, u4, u5, _, rfl, iteF ?_⟩
        exact ⟨_, _, _, _, _, _, _, _, rfl, lq⟩
      · refine ⟨_, rfl, .inr ⟨i6, rfl, ?_⟩⟩
        have kp5 := Kp.refl lo.tv
        have lp := lo.kv kp5 nPP
        refine ⟨_, rfl, _, rfl, _, _, rfl, rfl, by decide, by decide, by decide, by decide, by decide, by decide, by show 4 ≤ sizeLine; decide, fun p4 np4 => ?_⟩
        have lq := lp.new (o := .tup noVals) np4
        refine ⟨p4, noVals, rfl, .inr (SqT.of upd_same), hflat, by decide +kernel, ?_⟩
        have edp : ∀ H9, Dp K H9 (.bl (!inV (.int i6) noVals)) (.bool (decide (-99999 ≤ i6 ∧ i6 ≤ 99999))) := fun H9 => by rw [← evs]; exact .bl _
        obtain ⟨u1, u2, u3, u4, u5⟩ := boolOk (decide (-99999 ≤ i6 ∧ i6 ≤ 99999))
        refine ⟨.bl _, .bl _, .bool (decide (-99999 ≤ i6 ∧ i6 ≤ 99999)), rfl, .bl _, edp _, u1, u2, u3, u4, u5, _, rfl, iteF ?_⟩
        exact ⟨_, _, _, _, _, _, _, _, rfl, lq⟩
    · rintro σ Ha ⟨n, y3, y4, y5, y6, y7, y8, y9, rfl, la⟩
      refine ⟨[], some [], rfl, by decide, la.tv, .nil, fun Hb kp => ⟨(fun z => by cases z), fun ts D vs e nD eD tk => ?_⟩⟩
      cases e
      have lb := la.kv kp nPP
      cases tk
      refine ⟨Nat.zero_le _, fun p np => ?_⟩
      have lc := lb.new (o := .lst []) np
      refine ⟨.list [], .list [], .lst (SqL.of (xs := []) (by rw [upd_ne (ne_of_none eD np)]; exact eD)) .nil, .lst (SqL.of upd_same) .nil, by decide +kernel, by decide +kernel, _, rfl, and_ok (by decide +kernel) ?_⟩
      refine ⟨[32, 32], some [], rfl, by decide, lc.tv, .sp (.sp .nil), fun Hc kp2 => ⟨(fun z => by cases z), fun ts D2 vs e nD2 eD2 tk2 => ?_⟩⟩
      cases e
      have ld2 := lc.kv kp2 nPP
      cases tk2
      refine ⟨Nat.zero_le _, fun p2 np2 => ?_⟩
      have le := ld2.new (o := .lst []) np2
      refine ⟨.list [], .list [], .lst (SqL.of (xs := []) (by rw [upd_ne (ne_of_none eD2 np2)]; exact eD2)) .nil, .lst (SqL.of upd_same) .nil, by decide +kernel, by decide +kernel, _, rfl, and_ok (by decide +kernel) ?_⟩
      refine ⟨("wait5" : Str).cps.toList, _, rfl, by decide +kernel, le.tv, wait5, fun Hd kp3 => ⟨(fun z => by cases z), fun ts D3 vs e nD3 eD3 tk3 => ?_⟩⟩
      cases e
      have lf := le.kv kp3 nPP
      refine ⟨two_le, fun q1 nq1 => ⟨two_le, fun q2 nq2 => ⟨two_le, fun q3 nq3 => ?_⟩⟩⟩
      have w1 : Same Hd (upd Hd q1 (.tup [V.str "word", V.str "wait"])) := Same.lst (Same.refl _) nq1
      have w2 := Same.lst (o := .tup [V.str "number", V.int 5]) w1 (w1.free nq2)
      have w3 := Same.lst (o := .lst [V.ref q1, V.ref q2]) w2 (w2.free nq3)
      have n12 : q1 ≠ q2 := ne_of_none (upd_same (H := Hd) (a := q1) (o := .tup [V.str "word", V.str "wait"])) nq2
      have n13 : q1 ≠ q3 := ne_of_none (o := .tup [V.str "word", V.str "wait"]) (by rw [upd_ne n12, upd_same]) nq3
      have n23 : q2 ≠ q3 := ne_of_none (upd_same (a := q2) (o := .tup [V.str "number", V.int 5])) nq3
      have tk4 := tk3.imp fun q t h => w3 q _ h
      refine ⟨.list ([Tok.word ("wait" : Str).cps.toList, .num 5].map tokD), .list ([Tok.word ("wait" : Str).cps.toList, .num 5].map tokD), toksD_dp (w3 _ _ eD3) tk4,
        .lst (SqL.of upd_same) (.cons (.tup (SqT.of (xs := [V.str "word", V.str "wait"]) (by rw [upd_ne n13, upd_ne n12, upd_same])) (.cons (.str _) (.cons (.str _) .nil))) (.cons (.tup (SqT.of (xs := [V.str "number", V.int 5]) (by rw [upd_ne n23, upd_same])) (.cons (.str _) (.cons (.int _) .nil))) .nil)), by decide +kernel, by decide +kernel, ?_⟩
      rw [show PyData.eqv (.list ([Tok.word ("wait" : Str).cps.toList, .num 5].map tokD)) (.list ([Tok.word ("wait" : Str).cps.toList, .num 5].map tokD)) = true from by decide +kernel]
      exact q _
end
end K1

set_option maxRecDepth 100000
set_option maxHeartbeats 16000000
namespace K1
open PySem PySem.Spec PyProof.Rows L2 GD
def strOf : Value → Option Str
  | .str x _ => some x
  | _ => none
theorem vals_strs : ∀ (l : List Str) (us : List Value), us.map strOf = l.map some → Vals (l.map V.str) us
  | [], [], _ => .nil
  | [], _ :: _, h => by cases h
  | _ :: _, [], h => by cases h
  | x :: l, u :: us, h => by
    have h1 : strOf u = some x := (List.cons.inj h).1
    have h2 : us.map strOf = l.map some := (List.cons.inj h).2
    refine .cons ?_ (vals_strs l us h2)
    cases u with
    | str z t =>
      have e : z = x := Option.some.inj h1
      subst e
      exact ⟨t, rfl⟩
    | _ => cases h1
theorem end_at {l : PySem.W.OpenLaw} {q : Program} {w : World} {K : PySem.W.Frag} {h : Heap} {mg : Str → Option Value} {fa : Addr} (X : K.In h) (G : h.Ns mainGlobals mg) (hfa : mg "law" = some (.ref fa)) (TB : TabsAt q K mg h)
    {f1 f2 f3 f4 f5 f6 f7 f8 f9 f10 f11 f12 f13 f14 f15 f16 cN cV PN PV ra : Addr} {od1 an1 od2 an2 od3 an3 od4 an4 od5 an5 od6 an6 od7 an7 od8 an8 od9 an9 od10 an10 od11 an11 od12 an12 od13 an13 od14 an14 od15 an15 od16 an16 ddN ddV ddR : Option Addr} {sl1 sl2 sl3 sl4 sl5 sl6 sl7 sl8 sl9 sl10 sl11 sl12 sl13 sl14 sl15 sl16 slN slV slR : Array (Option Value)}
    {oc1 kV1 dc1 pm1 ct1 oc2 kV2 dc2 pm2 ct2 oc3 kV3 dc3 pm3 ct3 oc4 kV4 dc4 pm4 ct4 oc5 kV5 dc5 pm5 ct5 oc6 kV6 dc6 pm6 ct6 oc7 kV7 dc7 pm7 ct7 oc8 kV8 dc8 pm8 ct8 oc9 kV9 dc9 pm9 ct9 oc10 kV10 dc10 pm10 ct10 oc11 kV11 dc11 pm11 ct11 oc12 kV12 dc12 pm12 ct12 oc13 kV13 dc13 pm13 ct13 oc14 kV14 dc14 pm14 ct14 oc15 kV15 dc15 pm15 ct15 oc16 kV16 dc16 pm16 ct16 cd3 cd4 cd5 cd6 cd7 cd8 cd9 cd10 cd11 cd12 cd13 cd14 cd15 cd16 eN eV : Value} {usN usV itsR : Array Value} {nR : Nat} {t_NAME_MOST t_NUMBER_MOST t_STRING_MOST t_CHARACTERS t_LETTERS t_DIGITS t_SIGNS : PySem.Tok}
    (a1 : PySem.W.nsIn K mainGlobals "is_name" = some (some (.ref f1))) (l1 : K.lookup f1 = some ⟨oc1, od1, .func (PySem.W.fnOf "is_name" "is_name" (defArgs sIsName) (defBody sIsName) (defScope sIsName) .none kV1 dc1 pm1 an1 (.ref cN) ct1), sl1⟩) (c1 : PySem.W.codeIn K (.ref cN) "is_name" = true) (k1 : PySem.W.keepIn K (.ref f1) = true)
    (a2 : PySem.W.nsIn K mainGlobals "is_value" = some (some (.ref f2))) (l2 : K.lookup f2 = some ⟨oc2, od2, .func (PySem.W.fnOf "is_value" "is_value" (defArgs sIsValue) (defBody sIsValue) (defScope sIsValue) .none kV2 dc2 pm2 an2 (.ref cV) ct2), sl2⟩) (c2 : PySem.W.codeIn K (.ref cV) "is_value" = true) (k2 : PySem.W.keepIn K (.ref f2) = true)
    (a3 : PySem.W.nsIn K mainGlobals "split" = some (some (.ref f3))) (l3 : K.lookup f3 = some ⟨oc3, od3, .func (PySem.W.fnOf "split" "split" (defArgs sSplit) (defBody sSplit) (defScope sSplit) .none kV3 dc3 pm3 an3 cd3 ct3), sl3⟩) (c3 : PySem.W.codeIn K cd3 "split" = true) (k3 : PySem.W.keepIn K (.ref f3) = true)
    (a4 : PySem.W.nsIn K mainGlobals "token_at" = some (some (.ref f4))) (l4 : K.lookup f4 = some ⟨oc4, od4, .func (PySem.W.fnOf "token_at" "token_at" (defArgs sTokenAt) (defBody sTokenAt) (defScope sTokenAt) .none kV4 dc4 pm4 an4 cd4 ct4), sl4⟩) (c4 : PySem.W.codeIn K cd4 "token_at" = true) (k4 : PySem.W.keepIn K (.ref f4) = true)
    (a5 : PySem.W.nsIn K mainGlobals "word_at" = some (some (.ref f5))) (l5 : K.lookup f5 = some ⟨oc5, od5, .func (PySem.W.fnOf "word_at" "word_at" (defArgs sWordAt) (defBody sWordAt) (defScope sWordAt) .none kV5 dc5 pm5 an5 cd5 ct5), sl5⟩) (c5 : PySem.W.codeIn K cd5 "word_at" = true) (k5 : PySem.W.keepIn K (.ref f5) = true)
    (a6 : PySem.W.nsIn K mainGlobals "number_at" = some (some (.ref f6))) (l6 : K.lookup f6 = some ⟨oc6, od6, .func (PySem.W.fnOf "number_at" "number_at" (defArgs sNumberAt) (defBody sNumberAt) (defScope sNumberAt) .none kV6 dc6 pm6 an6 cd6 ct6), sl6⟩) (c6 : PySem.W.codeIn K cd6 "number_at" = true) (k6 : PySem.W.keepIn K (.ref f6) = true)
    (a7 : PySem.W.nsIn K mainGlobals "string_at" = some (some (.ref f7))) (l7 : K.lookup f7 = some ⟨oc7, od7, .func (PySem.W.fnOf "string_at" "string_at" (defArgs sStringAt) (defBody sStringAt) (defScope sStringAt) .none kV7 dc7 pm7 an7 cd7 ct7), sl7⟩) (c7 : PySem.W.codeIn K cd7 "string_at" = true) (k7 : PySem.W.keepIn K (.ref f7) = true)
    (a8 : PySem.W.nsIn K mainGlobals "end_of_run" = some (some (.ref f8))) (l8 : K.lookup f8 = some ⟨oc8, od8, .func (PySem.W.fnOf "end_of_run" "end_of_run" (defArgs sEndOfRun) (defBody sEndOfRun) (defScope sEndOfRun) .none kV8 dc8 pm8 an8 cd8 ct8), sl8⟩) (c8 : PySem.W.codeIn K cd8 "end_of_run" = true) (k8 : PySem.W.keepIn K (.ref f8) = true)
    (a9 : PySem.W.nsIn K mainGlobals "_law_cell" = some (some (.ref f9))) (l9 : K.lookup f9 = some ⟨oc9, od9, .func (PySem.W.fnOf "_law_cell" "_law_cell" (defArgs sCell) (defBody sCell) (defScope sCell) .none kV9 dc9 pm9 an9 cd9 ct9), sl9⟩) (c9 : PySem.W.codeIn K cd9 "_law_cell" = true) (k9 : PySem.W.keepIn K (.ref f9) = true)
    (a10 : PySem.W.nsIn K mainGlobals "_law_digits" = some (some (.ref f10))) (l10 : K.lookup f10 = some ⟨oc10, od10, .func (PySem.W.fnOf "_law_digits" "_law_digits" (defArgs sDigits) (defBody sDigits) (defScope sDigits) .none kV10 dc10 pm10 an10 cd10 ct10), sl10⟩) (c10 : PySem.W.codeIn K cd10 "_law_digits" = true) (k10 : PySem.W.keepIn K (.ref f10) = true)
    (a11 : PySem.W.nsIn K mainGlobals "_law_draw" = some (some (.ref f11))) (l11 : K.lookup f11 = some ⟨oc11, od11, .func (PySem.W.fnOf "_law_draw" "_law_draw" (defArgs sDraw) (defBody sDraw) (defScope sDraw) .none kV11 dc11 pm11 an11 cd11 ct11), sl11⟩) (c11 : PySem.W.codeIn K cd11 "_law_draw" = true) (k11 : PySem.W.keepIn K (.ref f11) = true)
    (a12 : PySem.W.nsIn K mainGlobals "_law_alike" = some (some (.ref f12))) (l12 : K.lookup f12 = some ⟨oc12, od12, .func (PySem.W.fnOf "_law_alike" "_law_alike" (defArgs sAlike) (defBody sAlike) (defScope sAlike) .none kV12 dc12 pm12 an12 cd12 ct12), sl12⟩) (c12 : PySem.W.codeIn K cd12 "_law_alike" = true) (k12 : PySem.W.keepIn K (.ref f12) = true)
    (a13 : PySem.W.nsIn K mainGlobals "_law_token" = some (some (.ref f13))) (l13 : K.lookup f13 = some ⟨oc13, od13, .func (PySem.W.fnOf "_law_token" "_law_token" (defArgs sToken) (defBody sToken) (defScope sToken) .none kV13 dc13 pm13 an13 cd13 ct13), sl13⟩) (c13 : PySem.W.codeIn K cd13 "_law_token" = true) (k13 : PySem.W.keepIn K (.ref f13) = true)
    (a14 : PySem.W.nsIn K mainGlobals "_law_spelled" = some (some (.ref f14))) (l14 : K.lookup f14 = some ⟨oc14, od14, .func (PySem.W.fnOf "_law_spelled" "_law_spelled" (defArgs sSpelled) (defBody sSpelled) (defScope sSpelled) .none kV14 dc14 pm14 an14 cd14 ct14), sl14⟩) (c14 : PySem.W.codeIn K cd14 "_law_spelled" = true) (k14 : PySem.W.keepIn K (.ref f14) = true)
    (a15 : PySem.W.nsIn K mainGlobals "_law_joined" = some (some (.ref f15))) (l15 : K.lookup f15 = some ⟨oc15, od15, .func (PySem.W.fnOf "_law_joined" "_law_joined" (defArgs sJoined) (defBody sJoined) (defScope sJoined) .none kV15 dc15 pm15 an15 cd15 ct15), sl15⟩) (c15 : PySem.W.codeIn K cd15 "_law_joined" = true) (k15 : PySem.W.keepIn K (.ref f15) = true)
    (a16 : PySem.W.nsIn K mainGlobals "law" = some (some (.ref f16))) (l16 : K.lookup f16 = some ⟨oc16, od16, .func (PySem.W.fnOf "law" "law" (defArgs sLaw) (defBody sLaw) (defScope sLaw) .none kV16 dc16 pm16 an16 cd16 ct16), sl16⟩) (c16 : PySem.W.codeIn K cd16 "law" = true) (k16 : PySem.W.keepIn K (.ref f16) = true)
    (z_len : PySem.W.nsIn K mainGlobals "len" = some none)
    (z_range : PySem.W.nsIn K mainGlobals "range" = some none)
    (z_bint : PySem.W.nsIn K mainGlobals "int" = some none)
    (z_bstr : PySem.W.nsIn K mainGlobals "str" = some none)
    (z_bbool : PySem.W.nsIn K mainGlobals "bool" = some none)
    (z_blist : PySem.W.nsIn K mainGlobals "list" = some none)
    (z_repr : PySem.W.nsIn K mainGlobals "repr" = some none)
    (z_isinstance : PySem.W.nsIn K mainGlobals "isinstance" = some none)
    (z_ord : PySem.W.nsIn K mainGlobals "ord" = some none)
    (z_all : PySem.W.nsIn K mainGlobals "all" = some none)
    (y_NAME_MOST : PySem.W.nsIn K mainGlobals "NAME_MOST" = some (some (.int 6 t_NAME_MOST)))
    (y_NUMBER_MOST : PySem.W.nsIn K mainGlobals "NUMBER_MOST" = some (some (.int 99999 t_NUMBER_MOST)))
    (y_STRING_MOST : PySem.W.nsIn K mainGlobals "STRING_MOST" = some (some (.int 20 t_STRING_MOST)))
    (y_CHARACTERS : PySem.W.nsIn K mainGlobals "CHARACTERS" = some (some (.str " !\"#$&'()*+,-./0123456789:;<=>?@ABCDEFGHIJKLMNOPQRSTUVWXYZ[\\]^_`abcdefghijklmnopqrstuvwxyz{|}~" t_CHARACTERS)))
    (y_LETTERS : PySem.W.nsIn K mainGlobals "LETTERS" = some (some (.str "abcdefghijklmnopqrstuvwxyz" t_LETTERS)))
    (y_DIGITS : PySem.W.nsIn K mainGlobals "DIGITS" = some (some (.str "0123456789" t_DIGITS)))
    (y_SIGNS : PySem.W.nsIn K mainGlobals "SIGNS" = some (some (.str "(),;+-*<=" t_SIGNS)))
    (rA : PySem.W.nsIn K mainGlobals "RESERVED" = some (some (.ref ra))) (rL : K.lookup ra = some ⟨.type "tuple", ddR, .seq itsR nR, slR⟩) (rZ : itsR.size ≤ sizeLine) (rV : itsR.toList.map strOf = kw13.map some)
    (tN : K.lookup cN = some ⟨eN, ddN, .fields usN, slN⟩) (uN : usN[11]? = some (.ref PN)) (oN : K.lookup PN = none) (tV : K.lookup cV = some ⟨eV, ddV, .fields usV, slV⟩) (uV : usV[11]? = some (.ref PV)) (oV : K.lookup PV = none) (nPP : PN ≠ PV)
    (qN : ((recsOf q).any fun r => r.name == ("is_name" : Str)) = true) (qV : ((recsOf q).any fun r => r.name == ("is_value" : Str)) = true) :
    LawG l w K CX0 6 63 "script" mg fa h := by
  have g : ∀ {x : Str} {v : Value}, PySem.W.nsIn K mainGlobals x = some (some v) → mg x = some v := fun e => PySem.W.mg_of X G e
  have gz : ∀ {x : Str}, PySem.W.nsIn K mainGlobals x = some none → mg x = none := fun e => PySem.W.mg_none_of X G e
  have e := hfa.symm.trans (g a16)
  cases e
  have T : Txt K mg := ⟨gz z_len, gz z_range, gz z_bint, gz z_bstr, gz z_bbool, gz z_blist, gz z_repr, gz z_isinstance, gz z_ord, gz z_all, ⟨_, g y_NAME_MOST⟩, ⟨_, g y_NUMBER_MOST⟩, ⟨_, g y_STRING_MOST⟩, ⟨_, g y_CHARACTERS⟩, ⟨_, g y_LETTERS⟩, ⟨_, g y_DIGITS⟩, ⟨_, g y_SIGNS⟩, ⟨ra, g rA, fun H => .inr ⟨_, itsR, nR, rL, rfl, rfl, rZ, vals_strs _ _ rV⟩⟩⟩
  have F1 := fun_mk (st := sIsName) l1 c1 k1
  have b1 := F1.binds (ps := ["text"]) fun _ _ _ _ _ _ us hl => match us, hl with | [_], _ => rfl
  have F2 := fun_mk (st := sIsValue) l2 c2 k2
  have b2 := F2.binds (ps := ["value"]) fun _ _ _ _ _ _ us hl => match us, hl with | [_], _ => rfl
  have F3 := fun_mk (st := sSplit) l3 c3 k3
  have b3 := F3.binds (ps := ["line"]) fun _ _ _ _ _ _ us hl => match us, hl with | [_], _ => rfl
  have F4 := fun_mk (st := sTokenAt) l4 c4 k4
  have b4 := F4.binds (ps := ["line", "at"]) fun _ _ _ _ _ _ us hl => match us, hl with | [_, _], _ => rfl
  have F5 := fun_mk (st := sWordAt) l5 c5 k5
  have b5 := F5.binds (ps := ["line", "at"]) fun _ _ _ _ _ _ us hl => match us, hl with | [_, _], _ => rfl
  have F6 := fun_mk (st := sNumberAt) l6 c6 k6
  have b6 := F6.binds (ps := ["line", "at"]) fun _ _ _ _ _ _ us hl => match us, hl with | [_, _], _ => rfl
  have F7 := fun_mk (st := sStringAt) l7 c7 k7
  have b7 := F7.binds (ps := ["line", "at"]) fun _ _ _ _ _ _ us hl => match us, hl with | [_, _], _ => rfl
  have F8 := fun_mk (st := sEndOfRun) l8 c8 k8
  have b8 := F8.binds (ps := ["line", "at", "characters"]) fun _ _ _ _ _ _ us hl => match us, hl with | [_, _, _], _ => rfl
  have F9 := fun_mk (st := sCell) l9 c9 k9
  have b9 := F9.binds (ps := ["script", "k"]) fun _ _ _ _ _ _ us hl => match us, hl with | [_, _], _ => rfl
  have F10 := fun_mk (st := sDigits) l10 c10 k10
  have b10 := F10.binds (ps := ["script", "first", "last"]) fun _ _ _ _ _ _ us hl => match us, hl with | [_, _, _], _ => rfl
  have F11 := fun_mk (st := sDraw) l11 c11 k11
  have b11 := F11.binds (ps := ["box", "many"]) fun _ _ _ _ _ _ us hl => match us, hl with | [_, _], _ => rfl
  have F12 := fun_mk (st := sAlike) l12 c12 k12
  have b12 := F12.binds (ps := ["one", "two"]) fun _ _ _ _ _ _ us hl => match us, hl with | [_, _], _ => rfl
  have F13 := fun_mk (st := sToken) l13 c13 k13
  have b13 := F13.binds (ps := ["box"]) fun _ _ _ _ _ _ us hl => match us, hl with | [_], _ => rfl
  have F14 := fun_mk (st := sSpelled) l14 c14 k14
  have b14 := F14.binds (ps := ["token"]) fun _ _ _ _ _ _ us hl => match us, hl with | [_], _ => rfl
  have F15 := fun_mk (st := sJoined) l15 c15 k15
  have b15 := F15.binds (ps := ["box", "tokens"]) fun _ _ _ _ _ _ us hl => match us, hl with | [_, _], _ => rfl
  have F16 := fun_mk (st := sLaw) l16 c16 k16
  have hN := TB "is_name" f1 cN PN _ _ eN ddN usN slN qN (g a1) l1 rfl rfl tN uN
  have hV := TB "is_value" f2 cV PV _ _ eV ddV usV slV qV (g a2) l2 rfl rfl tV uV
  refine ⟨PySem.W.fnOf "law" "law" (defArgs sLaw) (defBody sLaw) (defScope sLaw) .none kV16 dc16 pm16 an16 cd16 ct16, [(cN, PN), (cV, PV)], spLaw K PN PV, fun p hp => ?_, fun p hp => ?_, fun p hp => ?_, fun s u => .of_eq rfl, fun H a ns hl _ hT hS => ?_, fun base _ _ hTB => ?_⟩
  · rcases List.mem_cons.mp hp with rfl | hp
    · exact hN.1
    · rw [List.mem_singleton.mp hp]
      exact hV.1
  · rcases List.mem_cons.mp hp with rfl | hp
    · exact oN
    · rw [List.mem_singleton.mp hp]
      exact oV
  · rcases List.mem_cons.mp hp with rfl | hp
    · exact hN.2
    · rw [List.mem_singleton.mp hp]
      exact hV.2
  · refine ⟨a, ns, rfl, hS, ⟨#[], hT (cN, PN) List.mem_cons_self, trivial⟩, ⟨#[], hT (cV, PV) (List.mem_cons_of_mem _ List.mem_cons_self), trivial⟩, nPP, fun _ => rfl⟩
  · have tbN := hTB (cN, PN) List.mem_cons_self
    have tbV := hTB (cV, PV) (List.mem_cons_of_mem _ List.mem_cons_self)
    have oCell := ok_cell (P := l.prog) (w := w) (base := base) F9 T
    have oDraw := ok_draw (P := l.prog) (w := w) (base := base) F11 T
    have oAlike := ok_alike (P := l.prog) (w := w) (base := base) F12 T
    have oDig := ok_digits F10 T oCell (g a9) k9 b9
    have oTok := ok_ltok F13 T oDraw (g a11) k11 b11
    have oSp := ok_spell (P := l.prog) (w := w) (base := base) F14 T
    have oJoin := ok_join F15 T oDraw (g a11) k11 b11 oSp (g a14) k14 b14
    have oEnd := ok_end (P := l.prog) (w := w) (base := base) F8 T
    have oWord := ok_word (PT := PV) F5 T oEnd (g a8) k8 b8
    have oNum := ok_num (PT := PV) F6 T oEnd (g a8) k8 b8
    have oVal := ok_value (P := l.prog) (w := w) (base := base) l2 c2 rfl tbV T
    have oNam := ok_name (P := l.prog) (w := w) (base := base) l1 c1 rfl tbN T
    have oStr := ok_str F7 T oVal (g a2) k2 b2
    have oTA := ok_tokat F4 T (oWord.mono (by decide)) (g a5) k5 b5 (oNum.mono (by decide)) (g a6) k6 b6 oStr (g a7) k7 b7
    have oSplit := ok_split F3 T oTA (g a4) k4 b4
    exact ok_law F16 T ⟨oDig, g a10, k10, b10⟩ ⟨oDraw, g a11, k11, b11⟩ ⟨oTok, g a13, k13, b13⟩ ⟨oJoin, g a15, k15, b15⟩ oAlike (g a12) k12 b12 ⟨oSplit, g a3, k3, b3⟩ ⟨oNam, g a1, k1, b1⟩ ⟨oVal, g a2, k2, b2⟩
end K1

open PySem PySem.W PyProof.Rows
set_option maxRecDepth 100000 in
set_option maxHeartbeats 0 in
theorem PySem.Challenge.cw_sameasnew_k01_tokens_of_lines_holds : PySem.Challenge.rw_sameasnew_k01_tokens_of_lines.Holds := by
  w_on; o_law; k_head; (case hw => w_witness2)
  k_fill
  refine GD.walk_ofG (l := PySem.Challenge.rw_sameasnew_k01_tokens_of_lines) (n := 63) (k := 6) (x := "script") (CX := fun _ => L2.CX0) rfl (by decide) rfl ⟨rfl, by decide, by decide⟩ (fun w h Y => PySem.W.kIn_of Y) ?F (fun _ _ _ _ _ h => h)
  case F =>
    intro w mg fa h Y KX G hmg TB
    refine' K1.end_at KX G hmg TB ?a1 ?l1 ?c1 ?k1 ?a2 ?l2 ?c2 ?k2 ?a3 ?l3 ?c3 ?k3 ?a4 ?l4 ?c4 ?k4 ?a5 ?l5 ?c5 ?k5 ?a6 ?l6 ?c6 ?k6 ?a7 ?l7 ?c7 ?k7 ?a8 ?l8 ?c8 ?k8 ?a9 ?l9 ?c9 ?k9 ?a10 ?l10 ?c10 ?k10 ?a11 ?l11 ?c11 ?k11 ?a12 ?l12 ?c12 ?k12 ?a13 ?l13 ?c13 ?k13 ?a14 ?l14 ?c14 ?k14 ?a15 ?l15 ?c15 ?k15 ?a16 ?l16 ?c16 ?k16 ?z_len ?z_range ?z_bint ?z_bstr ?z_bbool ?z_blist ?z_repr ?z_isinstance ?z_ord ?z_all ?y_NAME_MOST ?y_NUMBER_MOST ?y_STRING_MOST ?y_CHARACTERS ?y_LETTERS ?y_DIGITS ?y_SIGNS ?rA ?rL ?rZ ?rV ?tN ?uN ?oN ?tV ?uV ?oV ?nPP ?qN ?qV
    (case a1 => k_is)
    (case l1 => k_is)
    (case c1 => k_is)
    (case k1 => k_is)
    (case a2 => k_is)
    (case l2 => k_is)
    (case c2 => k_is)
    (case k2 => k_is)
    (case a3 => k_is)
    (case l3 => k_is)
    (case c3 => k_is)
    (case k3 => k_is)
    (case a4 => k_is)
    (case l4 => k_is)
    (case c4 => k_is)
    (case k4 => k_is)
    (case a5 => k_is)
    (case l5 => k_is)
    (case c5 => k_is)
    (case k5 => k_is)
    (case a6 => k_is)
    (case l6 => k_is)
    (case c6 => k_is)
    (case k6 => k_is)
    (case a7 => k_is)
    (case l7 => k_is)
    (case c7 => k_is)
    (case k7 => k_is)
    (case a8 => k_is)
    (case l8 => k_is)
    (case c8 => k_is)
    (case k8 => k_is)
    (case a9 => k_is)
    (case l9 => k_is)
    (case c9 => k_is)
    (case k9 => k_is)
    (case a10 => k_is)
    (case l10 => k_is)
    (case c10 => k_is)
    (case k10 => k_is)
    (case a11 => k_is)
    (case l11 => k_is)
    (case c11 => k_is)
    (case k11 => k_is)
    (case a12 => k_is)
    (case l12 => k_is)
    (case c12 => k_is)
    (case k12 => k_is)
    (case a13 => k_is)
    (case l13 => k_is)
    (case c13 => k_is)
    (case k13 => k_is)
    (case a14 => k_is)
    (case l14 => k_is)
    (case c14 => k_is)
    (case k14 => k_is)
    (case a15 => k_is)
    (case l15 => k_is)
    (case c15 => k_is)
    (case k15 => k_is)
    (case a16 => k_is)
    (case l16 => k_is)
    (case c16 => k_is)
    (case k16 => k_is)
    (case z_len => k_is)
    (case z_range => k_is)
    (case z_bint => k_is)
    (case z_bstr => k_is)
    (case z_bbool => k_is)
    (case z_blist => k_is)
    (case z_repr => k_is)
    (case z_isinstance => k_is)
    (case z_ord => k_is)
    (case z_all => k_is)
    (case y_NAME_MOST => k_is)
    (case y_NUMBER_MOST => k_is)
    (case y_STRING_MOST => k_is)
    (case y_CHARACTERS => k_is)
    (case y_LETTERS => k_is)
    (case y_DIGITS => k_is)
    (case y_SIGNS => k_is)
    (case rA => k_is)
    (case rL => k_is)
    (case rZ => decide)
    (case rV => rfl)
    (case tN => k_is)
    (case uN => rfl)
    (case oN => first | rfl | kernel_rfl | decide +kernel)
    (case tV => k_is)
    (case uV => rfl)
    (case oV => first | rfl | kernel_rfl | decide +kernel)
    (case nPP => decide)
    (case qN => decide +kernel)
    (case qV => decide +kernel)
