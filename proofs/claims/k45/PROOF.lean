import PyProof.Rows.All
import Wide.All
import OpenK.AllK
import Wide.FinOn
import HandS.ForMost
import HandS.AnyAll
import HandS.EndTab
import PyProof.GenCompD
import HandS.Codes
import KE.KIntText
import HandS.StrMore
import HandS.IsInst
import HandS.Walk
import HandS.FStr
import HandS.Text
import HandS.Strs
import HandS.TupSets
import HandS.ReplaceLit
import HandS.StrSplit
import HandS.ReplaceList
import HandS.Star
import HandS.RaiseMore
import PyProof.Rows.StrDigitsNeg
import PySem.Challenge.RW_sameasnew_k45_records_written_and_read
set_option Elab.async false
set_option linter.all false
set_option maxRecDepth 100000
set_option maxHeartbeats 4000000
/-! My own small layer over HandS: promises of defs that hold where no repr is under way (guards = []), the repr of data, the end with tables. -/
namespace GD
open PySem PySem.Spec PyProof.Rows L2

/-- a promise that is kept where nothing is being shown -/
structure FnG (P : Program) (w : World) (K : PySem.W.Frag) (mg : Str → Option Value) (base : Heap)
    (CX : CXT) (k : Nat) (f : Addr) (fd : FuncData) (ps : List Str) (sp : Sp) : Prop where
  size : ∀ vs H Q E, sp vs H Q E → vs.length = ps.length
  go : ∀ (A : Around) (outer : List Env) (s : Shared) (H : Hp) (args : Args) (us : List Value)
    (vs : List V) (Q : VK) (E : XK), A.guards = some [] → Room k A →
    Env0 P w K mg base A outer s H → BindsTo s fd args (ps.zip us) → Vals vs us → sp vs H Q E →
    codeAny (model P w) A (.call (.ref f) args) (CR CX outer P w H s Q E) s

section
variable {P : Program} {w : World} {K : PySem.W.Frag} {mg : Str → Option Value} {base : Heap}
variable {CX : CXT} {k : Nat} {f : Addr} {fd : FuncData} {ps : List Str} {sp : Sp}
theorem FnG.of (F : FnOk P w K mg base CX k f fd ps sp) : FnG P w K mg base CX k f fd ps sp :=
  ⟨F.len, fun A outer s H args us vs Q E _ => F.run A outer s H args us vs Q E⟩

/-- a def of the text by its body, with what is known of the guards -/
theorem fnG_of {name qual : Str} {params : Arguments} {body : List Stmt} {scope : Scope}
    {dV kV doc pm cdv ct oc : Value} {an od : Option Addr} {osl : Array (Option Value)} {N : List Str}
    (lk : K.lookup f = some ⟨oc, od, .func (PySem.W.fnOf name qual params body scope dV kV doc pm an cdv ct), osl⟩)
    (hcd : PySem.W.codeIn K cdv qual = true) (S : FnScope N ps scope)
    (size : ∀ vs H Q E, sp vs H Q E → vs.length = ps.length)
    (hbody : ∀ (A : Around) (outer : List Env) (s : Shared) (H : Hp) (vs : List V) (Q : VK) (E : XK),
      (A.deeper (envOfC qual scope s.heap.objs.size f cdv)).guards = some [] →
      Room k (A.deeper (envOfC qual scope s.heap.objs.size f cdv)) → sp vs H Q E →
      ∃ t, PSs (cxOf CX P w K mg base N qual scope f cdv A outer s H E) body t ∧
        t { nx := fun _ H' => Q .non H', rt := Q } (start N vs) H) :
    FnG P w K mg base CX (k + 1) f (PySem.W.fnOf name qual params body scope dV kV doc pm an cdv ct) ps sp := by
  refine ⟨size, fun A outer s H args us vs Q E hgd hr z0 hb r hs => ?_⟩
  have hl := size _ _ _ _ hs
  have kx : K.In s.heap := z0.mod.kin.keeps fun b o e => (z0.bs b o e).1
  have nl : s.heap.NoLimit := z0.mod.nolimit.keeps fun b o e => (z0.bs b o e).1
  have kind : ∀ y ∈ ps.zip us, scope.names.lookup y.1 = some .local ∨
      (scope.names.lookup y.1 = some .cell ∧
        ((cellsFrom (s.heap.objs.size + 1) scope.names []).lookup y.1).isSome = true) := by
    rintro ⟨n, v⟩ hy
    rcases S.par n (List.of_mem_zip hy).1 with q | q
    · exact .inl q
    · exact .inr ⟨q, PySem.W.cellsFrom_some _ _ _ (.inl q)⟩
  refine codeAny_call_function hr.depth (kx _ _ lk) rfl S.co S.gen rfl (PySem.W.codeRec_of kx hcd) (hb _ _ _ _ ?_)
  refine wpAny_newFunctionEnv_cells S.kind kind fun env he s1 x => ?_
  subst he
  refine ⟨nl.keeps x.toInCall.keep, codeAny_func ?_⟩
  obtain ⟨t, ht, hq⟩ := hbody A outer s H vs Q E hgd (hr.deeper _) hs
  have J := inv_start (CX := CX) (E := E) (qual := qual) (f := f) (cd := cdv) S hr.hd z0 hl r x
  refine wpAny_mono (ht.run [] s1 (start N vs) H _ J hq) (fun fl s' hs' => ?_) fun e s' hs' => hs'
  cases fl with
  | ret u =>
    obtain ⟨v, σ2, H2, I2, rv, q⟩ := hs'
    exact ⟨v, H2, I2.os, I2.bare, I2.base, I2.hok, rv, q⟩
  | next =>
    obtain ⟨σ2, H2, I2, q⟩ := hs'
    exact ⟨V.non, H2, I2.os, I2.bare, I2.base, I2.hok, rfl, q⟩
  | brk =>
    obtain ⟨_, _, _, q⟩ := hs'
    exact q.elim
  | cont =>
    obtain ⟨_, _, _, q⟩ := hs'
    exact q.elim

theorem okG {x qual : Str} {st : Stmt} {N : List Str} (F : Fun K x qual st f fd) (S : FnScope N ps (defScope st))
    (size : ∀ vs H Q E, sp vs H Q E → vs.length = ps.length)
    (hbody : ∀ (cdv : Value) (A : Around) (outer : List Env) (s : Shared) (H : Hp) (vs : List V) (Q : VK) (E : XK),
      (A.deeper (envOfC qual (defScope st) s.heap.objs.size f cdv)).guards = some [] →
      Room k (A.deeper (envOfC qual (defScope st) s.heap.objs.size f cdv)) → sp vs H Q E →
      ∃ t, PSs (cxOf CX0 P w K mg base N qual (defScope st) f cdv A outer s H E).nox (defBody st) t ∧
        t { nx := fun _ H' => Q .non H', rt := Q } (start N vs) H) :
    FnG P w K mg base CX0 (k + 1) f fd ps sp := by
  obtain ⟨oc, od, kV, doc, pm, an, cdv, ct, osl, rfl, lk, hcd⟩ := F.ex
  refine fnG_of lk hcd S size fun A outer s H vs Q E hgd hr hs => ?_
  obtain ⟨t, h, q⟩ := hbody cdv A outer s H vs Q E hgd hr hs
  exact ⟨t, h.nox, q⟩

/-- a def of the text, where its code object is asked for: k is what stands of it in the written part -/
theorem okC {x qual : Str} {st : Stmt} {N : List Str} {oc : Value} {od an : Option Addr} {osl : Array (Option Value)} {kV doc pm cdv ct : Value}
    (lk : K.lookup f = some ⟨oc, od, .func (PySem.W.fnOf x qual (defArgs st) (defBody st) (defScope st) .none kV doc pm an cdv ct), osl⟩)
    (hcd : PySem.W.codeIn K cdv qual = true) (S : FnScope N ps (defScope st))
    (size : ∀ vs H Q E, sp vs H Q E → vs.length = ps.length)
    (hbody : ∀ (A : Around) (outer : List Env) (s : Shared) (H : Hp) (vs : List V) (Q : VK) (E : XK),
      Room k (A.deeper (envOfC qual (defScope st) s.heap.objs.size f cdv)) → sp vs H Q E →
      ∃ t, PSs (cxOf CX0 P w K mg base N qual (defScope st) f cdv A outer s H E).nox (defBody st) t ∧
        t { nx := fun _ H' => Q .non H', rt := Q } (start N vs) H) :
    FnOk P w K mg base CX0 (k + 1) f (PySem.W.fnOf x qual (defArgs st) (defBody st) (defScope st) .none kV doc pm an cdv ct) ps sp := by
  refine fn_of lk hcd S size fun A outer s H vs Q E hr hs => ?_
  obtain ⟨t, h, q⟩ := hbody A outer s H vs Q E hr hs
  exact ⟨t, h.nox, q⟩
end

section
variable {X : Cx} {CX : CXT} {k : Nat} {f : Addr} {fd : FuncData} {ps : List Str} {sp : Sp} {dvs : List V}
variable {ds : List Value} {E : XK} {x : Str} {p pos : Pos} {e : Expr} {es : List Expr} {t : TA}
/-- a call of such a def -/
theorem pe_callG (F : FnG X.prog X.w X.K X.mg X.base CX k f fd ps sp) (hgd : X.A.guards = some []) (hr : Room k X.A) (hg : Gl X x)
    (hm : X.mg x = some (.ref f)) (hk : PySem.W.keepIn X.K (.ref f) = true) (hb : Binds X.K fd ps ds) (hd : Vals dvs ds) (hx : Passes CX X E)
    (ha : PA X (e :: es) t) (hdb : (x == ("__debug__" : Str)) = false := by decide)
    (he : starEach (e :: es) X.env = (false, eval e X.env) :: starEach es X.env := by rfl)
    (hpl : (backTo pos (starEach es X.env)).any (·.1) = false := by rfl) :
    PE X (.Call (.Name x p) (e :: es) [] pos) (tCall sp dvs E t) := by
  refine ⟨fun pins s σ H Q I h => wpAny_Call_Name_kw (ld_glob I hg hm ?_ hdb)⟩
  refine PySem.W.callWith_K (h₀ := X.base) I.ok.mod.kin hk (thn (ha.run pos pins s σ H _ I h) fun us s1 hh => ?_) he hpl
  obtain ⟨vs, H1, I1, r, q⟩ := hh
  refine ⟨I1.kIn, ?_⟩
  have r2 : Vals (vs ++ dvs) (us ++ ds) := r.append hd
  have hl : (us ++ ds).length = ps.length := by
    rw [← r2.length]
    exact F.size _ _ _ _ q
  refine wpAny_call (codeAny_mono (F.go X.A X.stack s1 H1 ⟨us, []⟩ (us ++ ds) (vs ++ dvs) Q E hgd hr I1.env0 (hb s1 us I1.kIn hl) r2 q) fun r s' hq => ?_)
  cases r with
  | error e => exact hx pins σ H1 s1 e s' I1 hq
  | ok fl =>
    cases fl with
    | ret u => exact I1.after hq
    | next => exact hq.elim
    | brk => exact hq.elim
    | cont => exact hq.elim

/-! ### repr of data -/
/-- repr(x) of none-free data: what it shows -/
theorem cr_repr (hgd : X.A.guards = some []) (hu : X.A.units + 64 < cLine) : CallR X (.builtin "repr") (fun xs H Q => ∃ (v : V) (d : PyData), xs = [v] ∧ Dp X.K H v d ∧ d ≠ .none ∧
    d.showable = true ∧ d.hasDict = false ∧ d.depth ≤ 60 ∧ d.shown.length ≤ sizeLine ∧ Q (.str d.shown) H) := by
  intro pins s σ H xs us Q I r h
  obtain ⟨v, d, rfl, hd, hnn, hs, hn, hdp, hz, q⟩ := h
  obtain ⟨u, rfl, ru⟩ := vals1 r
  have fin : ∀ tk, EP X pins σ Q (.str d.shown tk) s := fun tk => ⟨.str _, H, I, ⟨_, rfl⟩, q⟩
  cases hd with
  | non => exact absurd rfl hnn
  | bl b =>
    obtain rfl : u = Value.bool b := ru
    refine PySem.P.repr_of_bool ?_
    have e : (PyData.bool b).shown = (if b then ("True" : Str) else "False") := by
      simp only [PyData.shown]
    rw [e] at q
    cases b
    · exact ⟨.str _, H, I.tok _, ⟨_, rfl⟩, q⟩
    · exact ⟨.str _, H, I.tok _, ⟨_, rfl⟩, q⟩
  | int i =>
    obtain ⟨t, rfl⟩ := ru
    refine PySem.P.repr_of_int ?_ ⟨.str _, H, I.tok _, ⟨_, rfl⟩, ?_⟩
    · simpa only [PyData.showable, decide_eq_true_eq] using hs
    · simpa only [PyData.shown] using q
  | str a =>
    obtain ⟨t, rfl⟩ := ru
    refine PySem.P.repr_of_str ⟨.str _, H, I.tok _, ⟨_, rfl⟩, ?_⟩ ?_
    · simpa only [PyData.shown] using q
    · simpa only [PyData.shown] using hz
  | lst hs' ha' =>
    obtain rfl : u = Value.ref _ := ru
    obtain ⟨as, rr⟩ := Dp.reads I _ _ _ (Dp.lst hs' ha') rfl
    exact repr_of_reads' rr hs (PyData.noDict_hsm hn) hgd (by omega) (fun _ _ e => e)
      (fun h' u tk hk => ⟨.str _, H, I.kept hk, ⟨_, rfl⟩, q⟩) hz
  | tup hs' ha' =>
    obtain rfl : u = Value.ref _ := ru
    obtain ⟨as, rr⟩ := Dp.reads I _ _ _ (Dp.tup hs' ha') rfl
    exact repr_of_reads' rr hs (PyData.noDict_hsm hn) hgd (by omega) (fun _ _ e => e)
      (fun h' u tk hk => ⟨.str _, H, I.kept hk, ⟨_, rfl⟩, q⟩) hz
end
end GD

set_option maxRecDepth 100000
set_option maxHeartbeats 4000000
namespace GD
open PySem PySem.Spec PyProof.Rows L2

/-- an empty table of a code object -/
abbrev tb0 : Obj := { cls := .none, data := .fields #[] }
/-- the script as it is laid -/
abbrev so (vs : List Value) : Obj := { cls := .type "list", data := .seq vs.toArray }
/-- at the entry: the tables at T, and the script unless it belongs to the written part -/
def atEntry (K : PySem.W.Frag) (T : List Addr) (a : Addr) (vs : List Value) (ns : List Int) : Hp := fun b =>
  if b ∈ T then some (.tbl #[]) else if b = a ∧ K.lookup a = none then some (.frz (so vs) (.lst (ns.map V.int))) else none

section
variable {P : Program} {w : World} {K : PySem.W.Frag} {mg mb : Str → Option Value} {CX : CXT} {k : Nat} {fa a : Addr}
variable {cs : List (Addr × Addr)} {fd : FuncData} {x : Str} {sp : Sp} {s₁ : Shared} {vs : List Value} {ns : List Int}
theorem entry_call (kx : K.In s₁.heap) (hns : s₁.heap.Ns mainGlobals mg) (hb : s₁.heap.Ns builtinsNs mb)
    (hbb : ∀ x : Str, x ≠ "__name__" → mb x = bootBuiltins x) (hlim : s₁.heap.NoLimit) (hg : s₁.gens = #[])
    (hT : ∀ p ∈ cs, s₁.heap.get? p.2 = some tb0) (nT : ∀ p ∈ cs, K.lookup p.2 = none) (C : ∀ p ∈ cs, PySem.W.CodeHd s₁.heap p.1 p.2)
    (hbm : ∃ (bm : Addr) (ob : Obj), mg "__builtins__" = some (.ref bm) ∧ bm ≠ builtinsNs ∧ s₁.heap.get? bm = some ob ∧
      ob.cls = .type "module" ∧ ob.dict = some builtinsNs ∧ ob.data = .plain)
    (ha : s₁.heap.get? a = some (so vs)) (hi : IntsAre vs ns) (hl : ns.length ≤ sizeLine) (hr : Room k callerA)
    (F : ∀ base : Heap, K.In base → base.Ns mainGlobals mg → (∀ p ∈ cs, GxR.TabB base mg p.1 p.2) → FnG P w K mg base CX k fa fd [x] sp)
    (hbind : ∀ (s : Shared) (u : Value), BindsTo s fd ⟨[u], []⟩ [(x, u)])
    (hsp : ∀ H : Hp, (∀ p ∈ cs, H p.2 = some (.tbl #[])) → SqL K H a (ns.map V.int) → sp [.ref a] H (fun v _ => v = .bl true) fun _ _ _ => False)
    (hCX : ∀ H e s', CX [] H s₁ (fun _ _ _ => False) e s' → False) :
    codeAny (model P w) callerA (.call (.ref fa) ⟨[.ref a], []⟩)
      (fun r s' => r = .ok (.ret (.bool true)) ∧ OldK s₁.heap s'.heap ∧ s'.os = s₁.os ∧ AllBare s'.gens) s₁ := by
  obtain ⟨T, eT⟩ : ∃ T, T = cs.map (·.2) := ⟨_, rfl⟩
  have inT : ∀ p ∈ cs, p.2 ∈ T := fun p hp => eT ▸ List.mem_map.mpr ⟨p, hp, rfl⟩
  have ofT : ∀ b ∈ T, s₁.heap.get? b = some tb0 ∧ K.lookup b = none := fun b hb => by
    rw [eT] at hb
    obtain ⟨p, hp, rfl⟩ := List.mem_map.mp hb
    exact ⟨hT p hp, nT p hp⟩
  have aT : a ∉ T := fun z => by
    have q := (ofT a z).1
    rw [ha] at q
    cases (congrArg Obj.data (Option.some.inj q) : Data.seq vs.toArray _ = Data.fields #[])
  have rv : Vals (ns.map V.int) vs := vals_ints hi
  obtain ⟨H, eH⟩ : ∃ H, H = atEntry K T a vs ns := ⟨_, rfl⟩
  have hTb : ∀ b ∈ T, H b = some (.tbl #[]) := fun b hb => by rw [eH]; exact if_pos hb
  have hAb : K.lookup a = none → H a = some (.frz (so vs) (.lst (ns.map V.int))) := fun z => by
    rw [eH]
    exact (if_neg aT).trans (if_pos ⟨rfl, z⟩)
  have hOt : ∀ b, b ∉ T → ¬(b = a ∧ K.lookup a = none) → H b = none := fun b h1 h2 => by
    rw [eH]
    exact (if_neg h1).trans (if_neg h2)
  have cases3 : ∀ b, (b ∈ T ∧ H b = some (.tbl #[])) ∨ ((b = a ∧ K.lookup a = none) ∧ H b = some (.frz (so vs) (.lst (ns.map V.int)))) ∨ (b ∉ T ∧ H b = none) := fun b => by
    by_cases h1 : b ∈ T
    · exact .inl ⟨h1, hTb b h1⟩
    · by_cases h2 : b = a ∧ K.lookup a = none
      · exact .inr (.inl ⟨h2, by rw [h2.1]; exact hAb h2.2⟩)
      · exact .inr (.inr ⟨h1, hOt b h1 h2⟩)
  have hok : HOk P w H s₁.heap := fun b u e => by
    rcases cases3 b with ⟨h1, h2⟩ | ⟨⟨rfl, h1⟩, h2⟩ | ⟨_, h2⟩
    · rw [h2] at e
      cases e
      exact (ofT b h1).1
    · rw [h2] at e
      cases e
      exact ⟨ha, by rw [List.length_map]; exact hl, vs, _, rv, ha⟩
    · rw [h2] at e
      cases e
  have hS : SqL K H a (ns.map V.int) := by
    cases hk : K.lookup a with
    | none => exact .inl (.inr ⟨so vs, hAb hk⟩)
    | some o =>
      have e := kx a o hk
      rw [ha] at e
      cases e
      exact .inr ⟨_, vs.toArray, _, hk, rfl, rfl, rfl, by rw [List.size_toArray, hi.length]; exact hl, by simpa using rv⟩
  -- what is neither a sequence nor an empty table is not tracked
  have plain : ∀ {b : Addr} {o : Obj}, s₁.heap.get? b = some o → (∀ us n, o.data ≠ .seq us n) → o.data ≠ .fields #[] → H b = none := fun {b o} e h1 h2 => by
    rcases cases3 b with ⟨q, _⟩ | ⟨⟨rfl, _⟩, _⟩ | ⟨_, q⟩
    · have q := (ofT b q).1
      rw [e] at q
      cases q
      exact (h2 rfl).elim
    · rw [ha] at e
      cases e
      exact (h1 _ _ rfl).elim
    · exact q
  have stay : ∀ {b : Addr} {o : Obj}, s₁.heap.get? b = some o → H b = none → (hidT s₁.heap H).get? b = some o := fun e n => hidT_get e n
  have nsB : ∀ {b : Addr} {m : Str → Option Value}, s₁.heap.Ns b m → (hidT s₁.heap H).Ns b m := fun {b m} ⟨o, es, ep, e, d, r⟩ =>
    ⟨o, es, ep, stay e (plain e (fun us n z => by rw [d] at z; cases z) fun z => by rw [d] at z; cases z), d, r⟩
  have kB : K.In (hidT s₁.heap H) := fun b o e => stay (kx b o e) (by
    rcases cases3 b with ⟨q, _⟩ | ⟨⟨rfl, q⟩, _⟩ | ⟨_, q⟩
    · rw [(ofT b q).2] at e
      cases e
    · rw [q] at e
      cases e
    · exact q)
  have mB : L2.Mod K mg (hidT s₁.heap H) := ⟨kB, nsB hns, ⟨mb, nsB hb, hbb⟩, let ⟨mc, h1, h2⟩ := hlim; ⟨mc, nsB h1, h2⟩⟩
  have notNs : ∀ b o, s₁.heap.get? b = some o → (∃ us, o.data = .fields us) ∨ o.data = .plain → mainGlobals ≠ b := fun b o e h z => by
    obtain ⟨o2, es, ep, e2, d, _⟩ := hns
    rw [z, e] at e2
    cases e2
    rcases h with ⟨us, h⟩ | h
    · rw [h] at d
      cases d
    · rw [h] at d
      cases d
  have tB : ∀ p ∈ cs, GxR.TabB (hidT s₁.heap H) mg p.1 p.2 := fun p hp => by
    have hp0 := hT p hp
    refine ⟨?_, ?_, notNs p.2 _ hp0 (.inl ⟨_, rfl⟩)⟩
    · obtain ⟨o, us, file, tf, flags, tg, inF, text, tt, e1, r1, r2, r3, rest⟩ := C p hp
      refine ⟨o, us, file, tf, flags, tg, inF, text, tt, stay e1 (plain e1 (fun vs n z => ?_) fun z => ?_), r1, r2, r3, rest⟩
      · rw [r2] at z
        cases z
      · rw [r2] at z
        cases z
        simp at r3
    · obtain ⟨bm, ob, b1, b2, b3, b4, b5, b6⟩ := hbm
      refine ⟨bm, ob, b1, b2, (notNs bm ob b3 (.inr b6)).symm, fun z => ?_, stay b3 (plain b3 (fun vs n z => ?_) fun z => ?_), b4, b5, b6⟩
      · rw [z, hp0] at b3
        cases b3
        cases b6
      · rw [b6] at z
        cases z
      · rw [b6] at z
        cases z
  have z0 : Env0 P w K mg (hidT s₁.heap H) callerA [] s₁ H :=
    ⟨rfl, mB, fun b o e => of_hidT e, Nat.le_of_eq (hidT_size _ _), trivial, (fun b hb => by cases hb), hok, .of_eq hg⟩
  refine codeAny_mono ((F _ kB (nsB hns) tB).go callerA [] s₁ H ⟨[.ref a], []⟩ [.ref a] [.ref a] _ _ rfl hr z0 (hbind s₁ (.ref a))
    (.cons rfl .nil) (hsp H (fun p hp => hTb p.2 (inT p hp)) hS)) fun r s' h => ?_
  cases r with
  | error e => exact (hCX H e s' h).elim
  | ok fl =>
    cases fl with
    | next => exact h.elim
    | brk => exact h.elim
    | cont => exact h.elim
    | ret u =>
      obtain ⟨v, H', os, bare, un, hok', r', q⟩ := h
      obtain rfl : v = .bl true := q
      obtain rfl : u = Value.bool true := r'
      have same : ∀ b o, b ∉ T → s₁.heap.get? b = some o → s'.heap.get? b = some o := fun b o nb e => by
        rcases cases3 b with ⟨q, _⟩ | ⟨_, q⟩ | ⟨_, q⟩
        · exact absurd q nb
        · obtain ⟨e1, _⟩ := hok b _ q
          obtain ⟨e2, _⟩ := hok' b _ (un.frzs b _ _ q)
          rw [e] at e1
          cases e1
          exact e2
        · exact un.keep b o e q (fun z => by cases z) (by simp)
      have grown : ∀ p ∈ cs, ∃ more : Array Value, s'.heap.get? p.2 = some { cls := .none, data := .fields more } := fun p hp => by
        obtain ⟨more, z⟩ := un.tbls p.2 #[] (hTb p.2 (inT p hp))
        exact ⟨_, hok' p.2 _ z⟩
      refine ⟨rfl, ⟨fun b o e => ?_, fun b o e => ?_⟩, os, bare⟩
      · by_cases hb : b ∈ T
        · rw [eT] at hb
          obtain ⟨p, hp, rfl⟩ := List.mem_map.mp hb
          obtain ⟨more, hm⟩ := grown p hp
          rw [hT p hp] at e
          cases e
          exact .inr (.inl ⟨((C p hp).tab (hT p hp)).isCodeTable, rfl, #[], more, rfl, by rw [Array.empty_append]; exact hm⟩)
        · exact .inl (same b o hb e)
      · by_cases hb : b ∈ T
        · rw [eT] at hb
          obtain ⟨p, hp, rfl⟩ := List.mem_map.mp hb
          obtain ⟨more, hm⟩ := grown p hp
          exact ⟨_, hm⟩
        · exact ⟨o, same b o hb e⟩
end

/-- the table of the top's def dn: its code object c, the table P -/
def TabsAt (q : Program) (K : PySem.W.Frag) (mg : Str → Option Value) (h : Heap) : Prop :=
  ∀ (dn : Str) (f c P : Addr) (o : Obj) (fd : FuncData) (e : Value) (dd : Option Addr) (us : Array Value) (sl : Array (Option Value)),
    ((recsOf q).any fun r => r.name == dn) = true → mg dn = some (.ref f) → K.lookup f = some o → o.data = .func fd → fd.code = .ref c →
    K.lookup c = some ⟨e, dd, .fields us, sl⟩ → us[11]? = some (.ref P) → h.get? P = some tb0 ∧ PySem.W.CodeHd h c P

/-- what is to be shown of the law's def at the head's heap h -/
def LawG (l : PySem.W.OpenLaw) (w : World) (K : PySem.W.Frag) (CX : CXT) (k n : Nat) (x : Str) (mg : Str → Option Value) (fa : Addr) (h : Heap) : Prop :=
  ∃ (fd : FuncData) (cs : List (Addr × Addr)) (sp : Sp), (∀ p ∈ cs, h.get? p.2 = some tb0) ∧ (∀ p ∈ cs, K.lookup p.2 = none) ∧
    (∀ p ∈ cs, PySem.W.CodeHd h p.1 p.2) ∧ (∀ (s : Shared) (u : Value), BindsTo s fd ⟨[u], []⟩ [(x, u)]) ∧
    (∀ (H : Hp) (a : Addr) (ns : List Int), ns.length ≤ n → (∀ z ∈ ns, Builtin.Int.intBits z ≤ 1048576) → (∀ p ∈ cs, H p.2 = some (.tbl #[])) →
      SqL K H a (ns.map V.int) → sp [.ref a] H (fun v _ => v = .bl true) fun _ _ _ => False) ∧
    ∀ base : Heap, K.In base → base.Ns mainGlobals mg → (∀ p ∈ cs, GxR.TabB base mg p.1 p.2) → FnG l.prog w K mg base CX k fa fd [x] sp

theorem walk_ofG {l : PySem.W.OpenLaw} {n k : Nat} {q : Program} {loose : List Str} {XP : (Str → Option Value) → Heap → Prop}
    {YP : World → Heap → Prop} {d : DefRec} {K : Params → PySem.W.Frag} {CX : World → CXT} {x : Str}
    (hn : l.most = some n) (hn2 : n ≤ sizeLine) (hdf : d.params.defaults = []) (hr : Room k callerA)
    (hY : ∀ (w : World) (h : Heap), YP w h → (K w.params).In h)
    (F : ∀ (w : World) (mg : Str → Option Value) (fa : Addr) (h : Heap), YP w h → (K w.params).In h → h.Ns mainGlobals mg →
      mg d.name = some (.ref fa) → TabsAt q (K w.params) mg h → LawG l w (K w.params) (CX w) k n x mg fa h)
    (hCX : ∀ (w : World) (H : Hp) (s : Shared) (e : Value) (s' : Shared), CX w [] H s (fun _ _ _ => False) e s' → False) :
    PySem.W.WalkO q loose XP YP l.row.toRowW d [] (fun f vs => PySem.call f vs) := by
  refine Att.attach_callB hn hdf fun w s₀ s₁ mg mb fa o pm cd doc a vs ns G Y ho hd hcd hmg hobj hints hlen hbits hg => ?_
  have kx := hY w _ Y
  have tabs : TabsAt q (K w.params) mg s₁.heap := fun dn f c P o fd e dd us sl h1 h2 h3 h4 h5 h6 h7 => by
    obtain ⟨r, hr1, hr2⟩ := List.any_eq_true.mp h1
    obtain rfl : r.name = dn := beq_iff_eq.mp hr2
    obtain ⟨a', o', fd', c', P', g1, g2, g3, g4, g5, g6⟩ := G.T.tab r hr1
    rw [h2] at g1
    cases g1
    have z1 := kx _ _ h3
    rw [z1] at g2
    cases g2
    rw [h4] at g3
    cases g3
    rw [h5] at g4
    cases g4
    have hd := PySem.W.CodeHd.of g5 g6
    obtain ⟨⟨oc, vc, e1, _, e3, e4⟩, hP⟩ := g6
    have z2 := kx _ _ h6
    rw [z2] at e1
    cases e1
    cases e3
    rw [h7] at e4
    cases e4
    exact ⟨hP, hd⟩
  obtain ⟨fd, cs, sp, hT, nT, C, hb, hsp, hF⟩ := F w mg fa _ Y kx G.T.g hmg tabs
  exact entry_call kx G.T.g G.T.b G.T.builtins G.T.nolimit hg hT nT C G.T.bmain hobj hints (Nat.le_trans hlen hn2) hr hF hb
    (fun H hH hS => hsp H a ns hlen hbits hH hS) fun H e s' => hCX w H s₁ e s'
end GD

set_option maxRecDepth 100000
set_option maxHeartbeats 4000000
namespace GD
open PySem PySem.Spec PyProof.Rows L2

/-- the element of a generator over the signs of a text, where it may call a def of the module: a test of the sign c -/
def EltD (X : Cx) (scope : Scope) (x : Str) (elt : Expr) (pb : Nat → Bool) : Prop :=
  ∀ (cenv : Env) (A' : Around) (E' : Value → Shared → Prop) (c : Nat) (t : Tok) (s₂ : Shared) (m₂ : Str → Option Value),
    cenv.scope = scope → cenv.globals = X.env.globals → A'.handled = none → A'.depth ≤ X.A.depth + 1 → A'.units ≤ X.A.units + 8 →
    (∀ b o, X.base.get? b = some o → s₂.heap.get? b = some o) → s₂.heap.Ns cenv.locals m₂ → m₂ x = some (.str ⟨#[c]⟩ t) →
    wpAny (model X.prog X.w) A' (eval elt cenv) (fun y s₃ => y = .bool (pb c) ∧ Keeps s₂ s₃) E' s₂

section
variable {X : Cx} {pins : List (Addr × Obj)} {σ : L2.St} {H : Hp} {s : Shared}
theorem gen_signs {c P : Addr} {elt iter : Expr} {x : Str} {px gpos : Pos} {scope : Scope} {pb : Nat → Bool} {te : TE} {k : Nat}
    {Q' : Value → Shared → Prop} {R : Str → Hp → Prop} (hr : Room k X.A) (TB : GxR.TabB X.base X.mg c P) (hcode : X.env.code = .ref c)
    (S : GxR.GenS X.env scope x) (hi : PE X iter te) (hel : L2.Mod X.K X.mg X.base → EltD X scope x elt pb) (hs : ∀ v, genFold iter X.env v = pure v) (I : Inv X pins σ H s)
    (h : te σ H fun v H1 => ∃ a : Str, v = .str a ∧ GxR.TabG H1 P ∧ R a H1)
    (hQ : ∀ a H1 g s5, R a H1 → GxR.Ready X pins σ H1 P a pb g s5 → Q' (.ref g) s5) :
    wpAny (model X.prog X.w) X.A (eval (.GeneratorExp elt [⟨.Name x px, iter, [], 0⟩] scope gpos) X.env) Q' X.xe s := by
  refine wpAny_GeneratorExp_walksQD hr.hd S.co (closure_ok S.free) S.cell S.dot S.loc S.kind (by have := hr.dp; omega) ?_ hs
  refine thn (hi.run pins s σ H _ I h) fun xv s1 hv => ?_
  obtain ⟨v, H1, I1, r1, a, rfl, ⟨ps, hP, ht⟩, q1⟩ := hv
  obtain ⟨t, rfl⟩ := _root_.id r1
  refine wpAny_pyIter_str fun o St W hst => ?_
  have hP1 : s1.heap.get? P = some { cls := .none, data := .fields ps } := I1.hok P _ hP
  have ltP : P < s1.heap.objs.size := Heap.lt_size hP1
  have up : ∀ b u, s1.heap.get? b = some u → (s1.heap.push o).get? b = some u := fun b u e => Heap.get?_push_of_some _ e
  have cd : PySem.W.CodeHd (s1.heap.push o) c P := TB.code.keeps fun b u e => up b u (I1.bk b u e)
  have nl2 : (s1.heap.push o).NoLimit := I1.nolimit.push o
  have sz2 : (s1.heap.push o).objs.size = s1.heap.objs.size + 1 := Heap.size_push ..
  have rest : ∀ (code : Value) (h3 : Heap) (tk : Nat) (qs : Array Value), Heap.ExtBut P (s1.heap.push o) h3 → (s1.heap.push o).objs.size ≤ h3.objs.size →
      h3.get? P = some { cls := .none, data := .fields qs } → (∃ more, qs = ps ++ more) → TriplesOk qs.toList →
      wpAny (model X.prog X.w) X.A (builtinsFor X.env.globals X.env.builtins) (fun bi s₄ =>
        ∃ Ia fp wr n₀ Pf St₀ pz F, Value.ref s1.heap.objs.size = .ref Ia ∧ (∀ A' : Around, A'.handled = none → Walks X.prog X.w A' Ia fp wr n₀ Pf St₀) ∧
          St₀ 0 s₄.heap ∧ (∀ b ∈ fp, b < s₄.heap.objs.size) ∧ s₄.heap.NoLimit ∧ cStatics ∉ wr ∧
          (∀ href : Heap, (∀ b o, s₄.heap.get? b = some o → href.get? b = some o) →
            QuietGenD X.prog X.w (genEnv scope (cloFrom X.env.cells scope.names []) s₄.heap.objs.size code bi X.env) x [] elt
              (List.range s₄.heap.objs.size) wr Pf pz F href (X.A.depth + 1) (X.A.units + 8)) ∧
          (∀ a h₅ tk gs, gs.bare = true → s₄.heap.objs.size < a → h₅.objs.size = a + 1 → (∀ b o, s₄.heap.get? b = some o → h₅.get? b = some o) →
            WalksS X.prog X.w X.A.in4 a (a :: s₄.heap.objs.size :: List.range s₄.heap.objs.size) (s₄.heap.objs.size :: wr) (GenOnlyQ s₄.gens.size)
              (passing pz n₀ 0).length (fun j y => ∃ i, (passing pz n₀ 0)[j]? = some i ∧ F i y)
              (GenAt X.prog X.w X.A.in4 a s₄.gens.size s₄.heap.objs.size (List.range s₄.heap.objs.size) wr pz n₀ F) →
            GenAt X.prog X.w X.A.in4 a s₄.gens.size s₄.heap.objs.size (List.range s₄.heap.objs.size) wr pz n₀ F 0 { s₄ with gens := s₄.gens.push gs, toks := tk, heap := h₅ } →
            Q' (.ref a) { s₄ with gens := s₄.gens.push gs, toks := tk, heap := h₅ })) X.xe { s1 with heap := h3, toks := tk } := by
    intro code h3 tk qs hx hsz hP3 hmore ht3
    obtain ⟨bm, ob, e1, e2, e3, e4, e5, e6, e7, e8⟩ := TB.bm
    have hcl : cStatics < s1.heap.objs.size := let ⟨_, hns, _⟩ := I1.nolimit; hns.lt
    have hcP : cStatics ≠ P := fun e => by
      obtain ⟨_, ⟨o', es, ep, ho, hd, _⟩, _⟩ := I1.nolimit
      rw [e, hP1] at ho
      cases ho
      cases hd
    have k3 : ∀ b u, b ≠ P → s1.heap.get? b = some u → h3.get? b = some u := fun b u hb e => hx b u hb (up b u e)
    have kbase : ∀ b u, X.base.get? b = some u → h3.get? b = some u := fun b u e => k3 b u (fun z => by
      have q := (I1.bs b u e).2
      rw [z, hP] at q
      cases q) (I1.bk b u e)
    refine wpAny_builtinsFor (m := X.mg) (by rw [I1.ok.glob]; exact ((I1.mod.glob.keeps I1.bk).push o).extBut hx TB.gP) e1 e2 (k3 _ _ e4 (I1.bk _ _ e5)) e6 e7 e8 ?_
    refine ⟨s1.heap.objs.size, [s1.heap.objs.size], [s1.heap.objs.size], a.cps.size, SignAt a, St, (fun _ => true), (fun i y => ∃ cc, a.cps[i]? = some cc ∧ y = .bool (pb cc)), rfl, W, ?_, ?_, nl2.extBut hx hcP, ?_, ?_, ?_⟩
    · refine (W X.A hr.hd).frame _ _ _ hst fun b hb u e => hx b u (fun z => ?_) e
      obtain rfl : b = s1.heap.objs.size := by simpa using hb
      exact Nat.ne_of_lt ltP z.symm
    · intro b hb
      obtain rfl : b = s1.heap.objs.size := by simpa using hb
      show s1.heap.objs.size < h3.objs.size
      omega
    · intro z
      obtain z : cStatics = s1.heap.objs.size := by simpa using z
      exact Nat.ne_of_lt hcl z
    · intro href hhref
      refine ⟨fun A' E' i v s₂ m₂ hA hD hU hPv hn hm hk => ?_, fun A' E' i v s₂ m₂ hA hD hU hPv hp hn hm hk => ?_⟩
      · simp only [List.forIn_nil]
        exact wpAny_pure ⟨rfl, GxR.keeps_refl _⟩
      · obtain ⟨cc, u, hcc, rfl⟩ := hPv
        have kb : ∀ b o, X.base.get? b = some o → s₂.heap.get? b = some o := fun b o e =>
          hk b (List.mem_range.mpr (Heap.lt_size (kbase b o e))) (fun z => by
            obtain z : b = s1.heap.objs.size := by simpa using z
            exact Nat.ne_of_lt (Heap.lt_size (I1.bk b o e)) z) o (hhref b o (kbase b o e))
        exact wpAny_mono (hel I1.ok.mod _ A' E' cc u s₂ m₂ rfl rfl hA hD hU kb hn hm) (fun y s3 r => ⟨⟨cc, hcc, r.1⟩, r.2⟩) fun _ _ e => e
    · intro g h5 tk5 gs hgb hag hsz5 hk5 W5 hat
      simp only [GxR.passing_true, List.length_range] at W5
      refine hQ a H1 g _ q1 ⟨_, _, _, _, _, W5.in4_1, hat, fun j y sj Qj Ej hy hQj => ?_, fun s' hm => ?_⟩
      · obtain ⟨i, hij, cc, hcc, rfl⟩ := hy
        obtain ⟨hj, ej⟩ := List.getElem?_eq_some_iff.mp hij
        rw [List.getElem_range] at ej
        subst ej
        have e9 : a.cps.toList[j]? = some cc := by
          rw [Array.getElem?_toList]
          exact hcc
        have q2 : Qj (GxR.trF pb a.cps.toList j) sj := hQj
        rw [GxR.trF_some e9] at q2
        exact wpAny_truthy_bool q2
      · obtain ⟨more, em⟩ := hmore
        have nwr : ∀ b u, s1.heap.get? b = some u → b ∉ h3.objs.size :: [s1.heap.objs.size] := fun b u e hb => by
          have hl := Heap.lt_size e
          rcases List.mem_cons.mp hb with z | z
          · rw [z] at hl
            have h9 : (h3.objs.size : Nat) < s1.heap.objs.size := hl
            omega
          · obtain z : b = s1.heap.objs.size := by simpa using z
            exact Nat.ne_of_lt hl z
        have J := GxR.inv_tab (more := more) (h' := s'.heap) (g' := s'.gens) (d' := s'.drawn) (t' := s'.toks) I1 hP (fun b u hb e => hm.heap b u (nwr b u e) (hk5 b u (k3 b u hb e)))
          (by rw [← em]; exact hm.heap P _ (nwr P _ hP1) (hk5 P _ hP3)) (AllBare.movedS (I1.bare.push hgb) hm)
        rw [GxR.sh_eta s1 s' hm.os] at J
        exact ⟨upd H1 P (.tbl (ps ++ more)), ⟨⟨ps ++ more, upd_same, by rw [← em]; exact ht3⟩, fun b hb => upd_ne hb⟩, J⟩
  refine ⟨nl2, ?_⟩
  have hP2 := up P _ hP1
  cases hf : codeAmong gpos ps.toList with
  | none =>
    refine wpAny_genexprCodeX hcode (cd.code hP2 ht) (cd.tab hP2) hf fun c' h' tk hx hge hlt hco' _ htab' _ => ?_
    obtain ⟨o1, vs, f1, tf, fl, tg, inF, tx, tt, op, _, _, _, _, _, _, _, _, _, htr, _⟩ := hco'
    exact rest _ h' tk _ hx (Nat.le_trans hge (Nat.le_of_lt hlt)) htab'.2 ⟨_, rfl⟩ htr
  | some cv =>
    refine wpAny_genexprCode_hit hcode (cd.code hP2 ht) hf ?_
    exact rest cv (s1.heap.push o) s1.toks ps (Heap.ExtBut.refl _ _) (Nat.le_refl _) hP2 ⟨#[], by simp⟩ ht

/-- all(test for x in e) -/
theorem pe_allD {c P : Addr} {elt iter : Expr} {x : Str} {px p pos gpos : Pos} {scope : Scope} {pb : Nat → Bool} {te : TE} {k : Nat}
    (hr : Room k X.A) (hg : Gl X "all") (hm : X.mg "all" = none) (TB : GxR.TabB X.base X.mg c P) (hcode : X.env.code = .ref c) (S : GxR.GenS X.env scope x)
    (hi : PE X iter te) (hel : L2.Mod X.K X.mg X.base → EltD X scope x elt pb) (hs : ∀ v, genFold iter X.env v = pure v)
    (he : starEach [.GeneratorExp elt [⟨.Name x px, iter, [], 0⟩] scope gpos] X.env = (false, eval (.GeneratorExp elt [⟨.Name x px, iter, [], 0⟩] scope gpos) X.env) :: starEach [] X.env := by rfl) :
    PE X (.Call (.Name "all" p) [.GeneratorExp elt [⟨.Name x px, iter, [], 0⟩] scope gpos] [] pos) (GxR.tAllS P pb te) := by
  refine ⟨fun pins s σ H Q I h => wpAny_Call_Name_kw (ld_blt I hg hm (by decide +kernel : bootBuiltins "all" = some (.builtin "all")) ?_)⟩
  refine PyProof.Rows.callWith_builtin1 ?_ he (by rfl)
  rw [he]
  show wpAny _ _ (spliced ((false, _) :: backTo pos (starEach [] X.env))) _ _ s
  refine Calls.spliced_cons (gen_signs (R := fun a H1 => ∀ H2, GxR.Tabbed P H1 H2 → Q (.bl (a.cps.toList.all pb)) H2) hr TB hcode S hi hel hs I h fun a H1 g s5 hR hG => ?_)
  obtain ⟨fp, wr, G, F, St, W, hst, htr, hI⟩ := hG
  refine Calls.spliced_nil (call_all_walkS (W.self 0 _ _ _ hst ⟨g, fp, wr, G, _, F, St, _, rfl, W, hst, htr, fun s' hmv => ?_⟩))
  obtain ⟨H2, hT, J⟩ := hI s' hmv
  refine ⟨.bl _, H2, J, rfl, ?_⟩
  rw [GxR.all_signs a pb]
  exact hR H2 hT

/-- an element that calls nothing: x in N, N a text of the module -/
theorem elt_inSigns {scope : Scope} {x n : Str} {z : Str} {tz : Tok} {p1 p2 p3 : Pos} (hgl : X.env.globals = mainGlobals) (hmod : L2.Mod X.K X.mg X.base) (hk : scope.kind = .function)
    (hl : scope.names.lookup x = some .local) (hn : scope.names.lookup n = some .globalImplicit) (hm : X.mg n = some (.str z tz))
    (hd : (x == ("__debug__" : Str)) = false := by decide) (hd2 : (n == ("__debug__" : Str)) = false := by decide) :
    EltD X scope x (.Compare (.Name x p1) [.In] [.Name n p2] p3) (fun c => decide (c ∈ z.cps.toList)) := by
  intro cenv A' E' c t s₂ m₂ hs hg hA hD hU hb hns hx
  refine wpAny_Compare1 ?_
  refine wpAny_Name (wpAny_loadName_local (by rw [hs]; exact hk) (show cenv.scope.names.lookup x = some .local by rw [hs]; exact hl) hns hx ?_) hd
  refine Calls.Name_function_global (by rw [hs]; exact hk) (show cenv.scope.names.lookup n = some .globalImplicit by rw [hs]; exact hn) (Calls.loadGlobal_global (by rw [hg, hgl]; exact hmod.glob.keeps hb) hm ?_) hd2
  refine in_str ⟨?_, GxR.keeps_refl _⟩
  rw [PySem.StrLaws.found_one z c]
end
end GD

set_option maxRecDepth 100000
set_option maxHeartbeats 4000000
namespace K1
open PySem PySem.Spec PyProof.Rows L2 GD
/-! ### the text -/
def topS (i : Nat) : Stmt := PySem.Challenge.pw_sameasnew_k45_records_written_and_read.main.body.getD i (.Pass ⟨0, 0, 0, 0⟩)
abbrev sIsName : Stmt := topS 9
abbrev sIsValue : Stmt := topS 10
abbrev sSplit : Stmt := topS 11
abbrev sTokenAt : Stmt := topS 12
abbrev sWordAt : Stmt := topS 13
abbrev sNumberAt : Stmt := topS 14
abbrev sStringAt : Stmt := topS 15
abbrev sEndOfRun : Stmt := topS 16
abbrev sCell : Stmt := topS 39
abbrev sDigits : Stmt := topS 40
abbrev sDraw : Stmt := topS 41
abbrev sAlike : Stmt := topS 42

/-- the signs of the package -/
def CHS : Str := " !\"#$&'()*+,-./0123456789:;<=>?@ABCDEFGHIJKLMNOPQRSTUVWXYZ[\\]^_`abcdefghijklmnopqrstuvwxyz{|}~"
def isCh (c : Nat) : Bool := decide (32 ≤ c ∧ c ≤ 126 ∧ c ≠ 37)
theorem chs_le : ∀ x ∈ CHS.cps.toList, x ≤ 126 := by decide +kernel
theorem chs_tab : ∀ c ∈ List.range 127, decide (c ∈ CHS.cps.toList) = isCh c := by decide +kernel
theorem chs_eq (c : Nat) : decide (c ∈ CHS.cps.toList) = isCh c := by
  by_cases h : c < 127
  · exact chs_tab c (List.mem_range.mpr h)
  · rw [decide_eq_false fun z => h (Nat.lt_succ_of_le (chs_le c z))]
    exact (decide_eq_false fun z => h (by omega)).symm
/-- a character that may stand in a string -/
def mayC (c : Nat) : Bool := decide (32 ≤ c ∧ c ≤ 126 ∧ c ≠ 37 ∧ c ≠ 34 ∧ c ≠ 124)
theorem mayC_eq (c : Nat) : mayC c = (isCh c && !(decide (c = 34) || decide (c = 124))) := by
  unfold mayC isCh
  rw [Bool.eq_iff_iff]
  simp only [Bool.and_eq_true, Bool.not_eq_true', Bool.or_eq_false_iff, decide_eq_true_eq, decide_eq_false_iff_not]
  constructor
  · intro h
    exact ⟨⟨h.1, h.2.1, h.2.2.1⟩, h.2.2.2.1, h.2.2.2.2⟩
  · intro h
    exact ⟨h.1.1, h.1.2.1, h.1.2.2, h.2.1, h.2.2⟩
/-- the element of is_value's generator -/
theorem elt_val {X : Cx} {scope : Scope} {tz : Tok} {j1 j2 j3 : Nat} {p0 p1 p2 p3 p4 p5 p6 p7 p8 : Pos} (hgl : X.env.globals = mainGlobals) (hmod : L2.Mod X.K X.mg X.base) (hk : scope.kind = .function)
    (hl : scope.names.lookup ("character" : Str) = some .local) (hn : scope.names.lookup ("CHARACTERS" : Str) = some .globalImplicit) (hm : X.mg "CHARACTERS" = some (.str CHS tz)) :
    EltD X scope "character" (.BoolOp .And [.Compare (.Name "character" p1) [.In] [.Name "CHARACTERS" p2] p3, .Compare (.Name "character" p4) [.NotIn] [.Tuple [.Constant (.str "\"") j1 p5, .Constant (.str "|") j2 p6] j3 p7] p8] p0) mayC := by
  intro cenv A' E' c t s₂ m₂ hs hg hA hD hU hb hns hx
  have k1 : cenv.scope.kind = .function := by rw [hs]; exact hk
  have l1 : cenv.scope.names.lookup ("character" : Str) = some .local := by rw [hs]; exact hl
  refine BoolOp_and (wpAny_Compare1 ?_)
  refine wpAny_Name (wpAny_loadName_local k1 l1 hns hx ?_) (by decide)
  refine Calls.Name_function_global k1 (show cenv.scope.names.lookup _ = some .globalImplicit by rw [hs]; exact hn) (Calls.loadGlobal_global (by rw [hg, hgl]; exact hmod.glob.keeps hb) hm ?_) (by decide)
  refine in_str ?_
  rw [PySem.StrLaws.found_one CHS c, chs_eq c]
  refine wpAny_truthy_bool ?_
  by_cases c1 : isCh c = true
  case neg =>
    have e1 : isCh c = false := by
      cases h : isCh c
      · rfl
      · exact absurd h c1
    rw [e1]
    refine ite_ff ⟨?_, GxR.keeps_refl _⟩
    rw [mayC_eq, e1, Bool.false_and]
  rw [c1]
  refine ite_tt (BoolOp_one (wpAny_Compare1 ?_))
  refine wpAny_Name (wpAny_loadName_local k1 l1 hns hx ?_) (by decide)
  refine wpAny_Tuple_spliced ?_
  show wpAny _ _ (spliced ((false, eval _ cenv) :: backTo _ (starEach [_] cenv))) _ _ _
  refine Calls.spliced_cons (Calls.Constant_str ?_)
  show wpAny _ _ (spliced ((false, eval _ cenv) :: backTo _ (starEach [] cenv))) _ _ _
  refine Calls.spliced_cons (Calls.Constant_str ?_)
  refine Calls.spliced_nil ⟨by show 2 ≤ sizeLine; decide, ?_⟩
  refine SeqAt.notIn_tupleAt (eqU (.str ⟨#[c]⟩)) ⟨_, Heap.get?_push_size _ rfl, rfl, _, rfl⟩ (fun y hy => ?_) ?_
  · have z := List.mem_toArray.mp hy
    rcases List.mem_cons.mp z with rfl | z
    · exact SeqAt.EqAt.str_str _ _ _ _
    · rcases List.mem_cons.mp z with rfl | z
      · exact SeqAt.EqAt.str_str _ _ _ _
      · cases z
  · have q1 : ∀ d : Nat, eqV (.str ⟨#[d]⟩) (.str ⟨#[c]⟩) = decide (c = d) := fun d => by
      show ((⟨#[d]⟩ : Str) == (⟨#[c]⟩ : Str)) = _
      by_cases h : c = d
      · subst h
        rw [decide_eq_true rfl]
        exact beq_self_eq_true _
      · rw [decide_eq_false h]
        refine beq_eq_false_iff_ne.mpr fun z => h ?_
        have z1 : #[d] = #[c] := congrArg Str.cps z
        have z2 : [d] = [c] := congrArg Array.toList z1
        exact (List.cons.inj z2).1.symm
    refine ⟨congrArg Value.bool ?_, ⟨_, _, rfl, fun b o e => Heap.get?_push_of_some _ e⟩⟩
    show (!([Value.str (Str.ofString "\"") _, Value.str (Str.ofString "|") _].toArray.any (eqU (.str ⟨#[c]⟩)))) = mayC c
    rw [show ∀ l : List Value, l.toArray.any (eqU (.str ⟨#[c]⟩)) = l.any (eqU (.str ⟨#[c]⟩)) from fun l => by simp]
    rw [List.any_cons, List.any_cons, List.any_nil, Bool.or_false]
    show (!(eqV (.str ⟨#[34]⟩) (.str ⟨#[c]⟩) || eqV (.str ⟨#[124]⟩) (.str ⟨#[c]⟩))) = mayC c
    rw [q1, q1, mayC_eq, c1, Bool.true_and]
end K1

set_option maxRecDepth 100000
set_option maxHeartbeats 4000000
namespace K1
open PySem PySem.Spec PyProof.Rows L2 GD

def kw13 : List Str := ["import", "export", "let", "keep", "fn", "do", "hold", "if", "then", "else", "set", "from", "as"]
/-- what the top has written, but for the defs -/
structure Txt (K : PySem.W.Frag) (mg : Str → Option Value) : Prop where
  len : mg "len" = none
  range : mg "range" = none
  bint : mg "int" = none
  bstr : mg "str" = none
  bbool : mg "bool" = none
  blist : mg "list" = none
  repr : mg "repr" = none
  isinstance : mg "isinstance" = none
  ord : mg "ord" = none
  all : mg "all" = none
  NAME_MOST : ∃ t, mg "NAME_MOST" = some (.int 6 t)
  NUMBER_MOST : ∃ t, mg "NUMBER_MOST" = some (.int 99999 t)
  STRING_MOST : ∃ t, mg "STRING_MOST" = some (.int 20 t)
  CHARACTERS : ∃ t, mg "CHARACTERS" = some (.str CHS t)
  LETTERS : ∃ t, mg "LETTERS" = some (.str "abcdefghijklmnopqrstuvwxyz" t)
  DIGITS : ∃ t, mg "DIGITS" = some (.str "0123456789" t)
  SIGNS : ∃ t, mg "SIGNS" = some (.str "(),;+-*<=" t)
  RESERVED : ∃ a, mg "RESERVED" = some (.ref a) ∧ ∀ H, SqT K H a (kw13.map V.str)

/-! ### the law's helpers -/
/-- the box of a law: a list of the list of digits and the place -/
def Box (H : Hp) (b d : Addr) (ds : List Int) (at_ : Nat) : Prop :=
  H b = some (.lst [.ref d, .int at_]) ∧ H d = some (.lst (ds.map V.int)) ∧ ds.length ≤ 4000
theorem Box.ne {H : Hp} {b d : Addr} {ds : List Int} {at_ : Nat} (h : Box H b d ds at_) : d ≠ b := fun e => by
  obtain ⟨h1, h2, _⟩ := h
  rw [e, h1] at h2
  have q : [V.ref d, V.int at_] = ds.map V.int := by
    have := Option.some.inj h2
    injection this
  cases ds with
  | nil => cases q
  | cons x r => cases q

section
variable {P : Program} {w : World} {K : PySem.W.Frag} {mg : Str → Option Value} {base : Heap}

def spCell (K : PySem.W.Frag) : Sp := fun vs H Q _ => ∃ (a : Addr) (ns : List Int) (k : Nat), vs = [.ref a, .int k] ∧ SqL K H a (ns.map V.int) ∧ ∀ v : Int, Q (.int v) H
theorem scCell : FnScope ["script", "k"] ["script", "k"] (defScope sCell) := ⟨rfl, rfl, rfl, by decide +kernel, rfl, by decide +kernel, by decide +kernel⟩
theorem ok_cell {f : Addr} {fd : FuncData} (F : Fun K "_law_cell" "_law_cell" sCell f fd) (T : Txt K mg) : FnOk P w K mg base CX0 1 f fd ["script", "k"] (spCell K) := by
  have sc := scCell
  refine F.ok sc (fun vs H Q E h => ?_) (fun cdv A outer s H vs Q E hr h => ?_)
  · obtain ⟨a, ns, k, rfl, _⟩ := h
    rfl
  · obtain ⟨a, ns, k, rfl, hS, q⟩ := h
    refine ⟨_, (pss_cons (ps_if (pt_cmpR op_lt (pv 1) (pe_callB call_len_seq (by rfl) T.len (by decide +kernel) (pa_cons (pv 0) pa_nil)) (nomark _))
      (pss_one (ps_ret (pe_ix ix_list (pv 0) (pv 1) (fun _ _ => rfl)))) pss_nil)
      (pss_one (ps_ret pe_int))), ?_⟩
    refine ⟨_, rfl, _, rfl, a, _, rfl, .inl hS, _, _, rfl, rfl, _, rfl, ite2 (fun e => ?_) (fun e => ?_)⟩
    · have hk : k < ns.length := by
        have := of_decide_eq_true e
        rw [List.length_map] at this
        omega
      exact ⟨_, rfl, _, rfl, a, _, _, .int ns[k], rfl, rfl, hS, atI_nat (by rw [List.getElem?_map, List.getElem?_eq_getElem hk]; rfl), q _⟩
    · exact q 0

def spDraw : Sp := fun vs H Q _ => ∃ (b d : Addr) (ds : List Int) (at_ : Nat) (m : Int), vs = [.ref b, .int m] ∧ Box H b d ds at_ ∧ 0 < m ∧
  ∀ r : Int, 0 ≤ r → r < m → Q (.int r) (upd H b (.lst [.ref d, .int ((at_ + 1 : Nat) : Int)]))
theorem scDraw : FnScope ["box", "many", "at"] ["box", "many"] (defScope sDraw) := ⟨rfl, rfl, rfl, by decide +kernel, rfl, by decide +kernel, by decide +kernel⟩
theorem ok_draw {f : Addr} {fd : FuncData} (F : Fun K "_law_draw" "_law_draw" sDraw f fd) (T : Txt K mg) : FnOk P w K mg base CX0 1 f fd ["box", "many"] spDraw := by
  have sc := scDraw
  refine F.ok sc (fun vs H Q E h => ?_) (fun cdv A outer s H vs Q E hr h => ?_)
  · obtain ⟨b, d, ds, at_, m, rfl, _⟩ := h
    rfl
  · obtain ⟨b, d, ds, at_, m, rfl, hB, hm, q⟩ := h
    refine ⟨_, (pss_cons (ps_set (i := 2) sc.nd rfl (.inl rfl) (pe_ix ix_list (pv 0) pe_int (fun _ _ => rfl)))
      (pss_cons (ps_asg (pe_op op_add (pv 2) pe_int) (pg_sub (pv 0) pe_int set_list))
      (pss_cons (ps_if (pt_cmpR op_lt (pv 2) (pe_callB call_len_seq (by rfl) T.len (by decide +kernel) (pa_cons (pe_ix ix_list (pv 0) pe_int (fun _ _ => rfl)) pa_nil)) (nomark _))
      (pss_one (ps_ret (pe_op op_mod (pe_callTy call_int1 (by rfl) T.bint (by decide +kernel) (pa_cons (pe_ix ix_list (pe_ix ix_list (pv 0) pe_int (fun _ _ => rfl)) (pv 2) (fun _ _ => rfl)) pa_nil)) (pv 1)))) pss_nil)
      (pss_one (ps_ret (pe_op op_mod (pe_callTy call_int1 (by rfl) T.bint (by decide +kernel) (pa_cons (pe_op op_add (pe_op op_mul (pv 2) pe_int) pe_int) pa_nil)) (pv 1))))))), ?_⟩
    obtain ⟨h1, h2, h3⟩ := hB
    have nd : d ≠ b := Box.ne ⟨h1, h2, h3⟩
    refine ⟨_, rfl, b, _, 1, .int at_, rfl, rfl, SqL.of h1, atI_nat (j := 1) rfl, ?_⟩
    refine ⟨_, rfl, _, _, rfl, rfl, _, rfl, b, _, 1, 1, rfl, rfl, h1, rfl, ?_⟩
    have e1 : upd H b (.lst ([V.ref d, V.int at_].set 1 (.int ((at_ : Int) + 1)))) b = some (.lst [.ref d, .int ((at_ + 1 : Nat) : Int)]) := upd_same
    have e2 : upd H b (.lst ([V.ref d, V.int at_].set 1 (.int ((at_ : Int) + 1)))) d = some (.lst (ds.map V.int)) := by rw [upd_ne nd]; exact h2
    refine ⟨_, rfl, _, rfl, b, _, 0, .ref d, rfl, rfl, SqL.of e1, atI_nat (j := 0) rfl, d, _, rfl, .inl (SqL.of e2), _, _, rfl, rfl, _, rfl, ite2 (fun e => ?_) (fun e => ?_)⟩
    · have hk : at_ < ds.length := by
        have := of_decide_eq_true e
        rw [List.length_map] at this
        omega
      refine ⟨_, rfl, b, _, 0, .ref d, rfl, rfl, SqL.of e1, atI_nat (j := 0) rfl, _, rfl, d, _, _, .int ds[at_], rfl, rfl, SqL.of e2, atI_nat (by rw [List.getElem?_map, List.getElem?_eq_getElem hk]; rfl), .inl ⟨_, rfl, ?_⟩⟩
      exact ⟨_, rfl, _, _, rfl, rfl, hm, q _ (Int.emod_nonneg _ (by omega)) (Int.emod_lt_of_pos _ hm)⟩
    · refine ⟨_, rfl, _, _, rfl, rfl, .inr (by decide), _, _, rfl, rfl, .inl ⟨_, rfl, ?_⟩⟩
      exact ⟨_, rfl, _, _, rfl, rfl, hm, q _ (Int.emod_nonneg _ (by omega)) (Int.emod_lt_of_pos _ hm)⟩

def spAlike (K : PySem.W.Frag) : Sp := fun vs H Q _ => ∃ (x y : V) (d : PyData), vs = [x, y] ∧ Dp K H x d ∧ Dp K H y d ∧ d ≠ .none ∧ d.showable = true ∧ d.hasDict = false ∧ d.depth ≤ 60 ∧ d.shown.length ≤ sizeLine ∧ Q (.bl true) H
theorem scAlike : FnScope ["one", "two"] ["one", "two"] (defScope sAlike) := ⟨rfl, rfl, rfl, by decide +kernel, rfl, by decide +kernel, by decide +kernel⟩
theorem ok_alike {f : Addr} {fd : FuncData} (F : Fun K "_law_alike" "_law_alike" sAlike f fd) (T : Txt K mg) : FnG P w K mg base CX0 1 f fd ["one", "two"] (spAlike K) := by
  have sc := scAlike
  refine okG F sc (fun vs H Q E h => ?_) (fun cdv A outer s H vs Q E hgd hr h => ?_)
  · obtain ⟨x, y, d, rfl, _⟩ := h
    rfl
  · obtain ⟨x, y, d, rfl, hx, hy, h1, h2, h3, h4, h5, q⟩ := h
    refine ⟨_, (pss_one (ps_ret (pe_cmpR op_eq (pe_callB (cr_repr hgd hr.units) (by rfl) T.repr (by decide +kernel) (pa_cons (pv 0) pa_nil)) (pe_callB (cr_repr hgd hr.units) (by rfl) T.repr (by decide +kernel) (pa_cons (pv 1) pa_nil)) (nomark _)))), ?_⟩
    refine ⟨_, rfl, x, d, rfl, hx, h1, h2, h3, h4, h5, _, rfl, y, d, rfl, hy, h1, h2, h3, h4, h5, rfl, ?_⟩
    rw [decide_eq_true rfl]
    exact q
end
end K1

set_option maxRecDepth 100000
set_option maxHeartbeats 4000000
namespace K1
open PySem PySem.Spec PyProof.Rows L2 GD
section
variable {P : Program} {w : World} {K : PySem.W.Frag} {mg : Str → Option Value} {base : Heap}

theorem snoc_ints (ds : List Int) (x : Int) : ds.map V.int ++ [V.int x] = (ds ++ [x]).map V.int := by rw [List.map_append]; rfl
theorem Same.lst {H H1 : Hp} {D : Addr} {o : HO} (s : Same H H1) (n : H D = none) : Same H (upd H1 D o) := fun b u e => by
  rw [upd_ne (ne_of_none e n)]
  exact s b u e

def spDigits (K : PySem.W.Frag) : Sp := fun vs H Q _ => ∃ (a : Addr) (ns : List Int), vs = [.ref a, .int 0, .int 63] ∧ SqL K H a (ns.map V.int) ∧
  ∀ (H' : Hp) (D : Addr) (ds : List Int), Same H H' → H D = none → H' D = some (.lst (ds.map V.int)) → ds.length ≤ 4000 → Q (.ref D) H'
theorem scDigits : FnScope ["script", "first", "last", "digits", "k", "cell", "turn", "seed"] ["script", "first", "last"] (defScope sDigits) := ⟨rfl, rfl, rfl, by decide +kernel, rfl, by decide +kernel, by decide +kernel⟩
theorem ok_digits {f fc : Addr} {fd fdc : FuncData} (F : Fun K "_law_digits" "_law_digits" sDigits f fd) (T : Txt K mg) (FC : FnOk P w K mg base CX0 1 fc fdc ["script", "k"] (spCell K))
    (mc : mg "_law_cell" = some (.ref fc)) (kc : PySem.W.keepIn K (.ref fc) = true) (bc : Binds K fdc ["script", "k"] []) : FnOk P w K mg base CX0 2 f fd ["script", "first", "last"] (spDigits K) := by
  have sc := scDigits
  refine F.ok sc (fun vs H Q E h => ?_) (fun cdv A outer s H vs Q E hr h => ?_)
  · obtain ⟨a, ns, rfl, _⟩ := h
    rfl
  · obtain ⟨a, ns, rfl, hS, q⟩ := h
    refine ⟨_, (pss_cons (ps_set (i := 3) sc.nd rfl (.inl rfl) (pe_lst pa_nil))
(pss_cons (ps_for PassesOwn.never rfl (pi_range2 rfl T.range (pa_cons (pv 1) (pa_cons (pv 2) pa_nil))) (pg_name (i := 4) sc.nd rfl (.inl rfl))
(pss_cons (ps_set (i := 5) sc.nd rfl (.inl rfl) (pe_call FC hr (by rfl) mc kc bc .nil pass0 (pa_cons (pv 0) (pa_cons (pv 4) pa_nil))))
(C8.pss_cut (ps_if (pt_cmpR op_lt (pv 5) pe_int (nomark _))
(pss_one (ps_set (i := 5) sc.nd rfl (.inl rfl) (pe_op op_sub pe_int (pe_op op_mul pe_int (pv 5))))) pss_nil)
(pss_one (ps_if (pt_cmpR op_ge (pv 5) pe_int (nomark _))
(pss_one (ps_for PassesOwn.never rfl (pi_range1 rfl T.range (pa_cons pe_int pa_nil)) (pg_name (i := 6) sc.nd rfl (.inl rfl))
(pss_one (ps_if (pt_cmpR op_gt (pv 5) pe_int (nomark _))
(pss_cons (ps_expr (pe_bm PySem.F.plainAttrs_list PySem.F.slot_list_append PySem.F.type_list_append mt_append (pv 3) (pa_cons (pe_op op_mod (pe_callTy call_int1 (by rfl) T.bint (by decide +kernel) (pa_cons (pv 5) pa_nil)) pe_int) pa_nil)))
(pss_one (ps_set (i := 5) sc.nd rfl (.inl rfl) (pe_op op_fdiv (pv 5) pe_int)))) pss_nil)))) (pss_cons (ps_set (i := 7) sc.nd rfl (.inl rfl) (pe_op op_mod (pe_callTy call_int1 (by rfl) T.bint (by decide +kernel) (pa_cons (pe_op op_add (pe_op op_add (pe_op op_mul (pv 5) pe_int) (pe_op op_mul (pv 4) pe_int)) pe_int) pa_nil)) pe_int))
(pss_one (ps_for PassesOwn.never rfl (pi_range1 rfl T.range (pa_cons pe_int pa_nil)) (pg_name (i := 6) sc.nd rfl (.inl rfl))
(pss_cons (ps_set (i := 7) sc.nd rfl (.inl rfl) (pe_op op_mod (pe_callTy call_int1 (by rfl) T.bint (by decide +kernel) (pa_cons (pe_op op_add (pe_op op_add (pe_op op_mul (pv 7) pe_int) (pe_op op_mul pe_int (pv 6))) pe_int) pa_nil)) pe_int))
(pss_one (ps_expr (pe_bm PySem.F.plainAttrs_list PySem.F.slot_list_append PySem.F.type_list_append mt_append (pv 3) (pa_cons (pe_op op_mod (pe_callTy call_int1 (by rfl) T.bint (by decide +kernel) (pa_cons (pe_op op_fdiv (pv 7) pe_int) pa_nil)) pe_int) pa_nil)))))))))))))
(pss_one (ps_ret (pv 3))))), ?_⟩
    refine ⟨Nat.zero_le _, fun D hD => ?_⟩
    refine ⟨_, rfl, _, rfl, 0, 63, rfl, ⟨by decide, by decide, by decide, by decide⟩, for_range (lo := 0) (n := 63) (fun i σ H' => ∃ (ds : List Int) (y4 y5 y6 y7 : Option V), σ = [some (.ref a), some (.int 0), some (.int 63), some (.ref D), y4, y5, y6, y7] ∧ Same H H' ∧ H' D = some (.lst (ds.map V.int)) ∧ ds.length ≤ 60 * i)
      ⟨[], none, none, none, none, rfl, Same.lst (Same.refl H) hD, upd_same, Nat.zero_le _⟩ ?_ ?_⟩
    · rintro i σ H1 hi ⟨ds, y4, y5, y6, y7, rfl, s1, e1, l1⟩
      refine ⟨_, rfl, _, rfl, a, ns, i, by rw [Int.zero_add]; rfl, s1.seq hS, fun c => ?_⟩
      refine ⟨fun σ' H' => ∃ c : Int, σ' = [some (.ref a), some (.int 0), some (.int 63), some (.ref D), some (.int (0 + (i : Nat))), some (.int c), y6, y7] ∧ H' = H1, ⟨_, rfl, _, _, rfl, rfl, _, rfl, ite2 (fun _ => ?_) (fun _ => ?_)⟩, ?_⟩
      · exact ⟨_, rfl, _, _, rfl, rfl, .inl (by decide), _, _, rfl, rfl, _, rfl, rfl⟩
      · exact ⟨_, rfl, rfl⟩
      · rintro σ' H' ⟨c, rfl, rfl⟩
        have big : ∀ {n : Nat}, n ≤ 5000 → n < sizeLine := fun h => Nat.lt_of_le_of_lt h (by decide)
        refine ⟨_, rfl, _, _, rfl, rfl, _, rfl, ite2 (fun _ => ?_) (fun _ => ?_)⟩
        · refine ⟨_, rfl, by decide, by decide, for_range (lo := 0) (n := 60) (fun j σ H' => ∃ (ds2 : List Int) (c2 : Int) (y6 : Option V), σ = [some (.ref a), some (.int 0), some (.int 63), some (.ref D), some (.int (0 + (i : Nat))), some (.int c2), y6, y7] ∧ Same H H' ∧ H' D = some (.lst (ds2.map V.int)) ∧ ds2.length ≤ 60 * i + j)
            ⟨ds, c, y6, rfl, s1, e1, l1⟩ ?_ ?_⟩
          · rintro j σ H2 hj ⟨ds2, c2, y6, rfl, s2, e2, l2⟩
            refine ⟨_, rfl, _, _, rfl, rfl, _, rfl, ite2 (fun _ => ?_) (fun _ => ?_)⟩
            · refine ⟨_, rfl, .inl ⟨rfl, _, SqL.of e2⟩, _, rfl, .inl ⟨_, rfl, _, _, rfl, rfl, (by show (0 : Int) < 1000; decide), D, _, _, rfl, rfl, e2, ?_, ?_⟩⟩
              · rw [List.length_map]
                exact big (by omega)
              · refine ⟨_, rfl, _, _, rfl, rfl, ⟨by decide, by decide⟩, ds2 ++ [c2 % 1000], _, _, rfl, Same.lst s2 hD, ?_, ?_⟩
                · rw [upd_same, snoc_ints]
                · rw [List.length_append, List.length_singleton]
                  omega
            · exact ⟨ds2, c2, _, rfl, s2, e2, by omega⟩
          · rintro σ H2 ⟨ds2, c2, y6, rfl, s2, e2, l2⟩
            exact ⟨ds2, _, _, _, _, rfl, s2, e2, by omega⟩
        · refine ⟨_, rfl, _, _, rfl, rfl, .inr (by decide), _, rfl, _, _, rfl, rfl, .inr (by decide), _, _, rfl, rfl, _, _, rfl, rfl, .inl ⟨_, rfl, _, _, rfl, rfl, (by show (0 : Int) < 2147483399; decide), ?_⟩⟩
          refine ⟨_, rfl, by decide, by decide, for_range (lo := 0) (n := 12) (fun j σ H' => ∃ (ds2 : List Int) (c2 : Int) (y6 : Option V), σ = [some (.ref a), some (.int 0), some (.int 63), some (.ref D), some (.int (0 + (i : Nat))), some (.int c), y6, some (.int c2)] ∧ Same H H' ∧ H' D = some (.lst (ds2.map V.int)) ∧ ds2.length ≤ 60 * i + j)
            ⟨ds, _, y6, rfl, s1, e1, l1⟩ ?_ ?_⟩
          · rintro j σ H2 hj ⟨ds2, c2, y6, rfl, s2, e2, l2⟩
            refine ⟨_, rfl, _, _, rfl, rfl, .inr (by decide), _, rfl, _, _, rfl, rfl, .inl (by decide), _, _, rfl, rfl, _, _, rfl, rfl, .inl ⟨_, rfl, _, _, rfl, rfl, (by show (0 : Int) < 2147483563; decide), ?_⟩⟩
            refine ⟨_, rfl, .inl ⟨rfl, _, SqL.of e2⟩, _, rfl, _, _, rfl, rfl, ⟨by decide, by decide⟩, .inl ⟨_, rfl, _, _, rfl, rfl, (by show (0 : Int) < 1000; decide), D, _, _, rfl, rfl, e2, ?_, ?_⟩⟩
            · rw [List.length_map]
              exact big (by omega)
            · refine ⟨ds2 ++ [(c2 * 40014 + 5 * (0 + (j : Nat)) + 3) % 2147483563 / 1009 % 1000], _, _, rfl, Same.lst s2 hD, ?_, ?_⟩
              all_goals try dsimp only
              · rw [upd_same, snoc_ints]
              · rw [List.length_append, List.length_singleton]
                omega
          · rintro σ H2 ⟨ds2, c2, y6, rfl, s2, e2, l2⟩
            exact ⟨ds2, _, _, _, _, rfl, s2, e2, by omega⟩
    · rintro σ H1 ⟨ds, y4, y5, y6, y7, rfl, s1, e1, l1⟩
      exact ⟨_, rfl, q H1 D ds s1 hD e1 (by omega)⟩
end
end K1

set_option maxRecDepth 100000
set_option maxHeartbeats 4000000
/-! the mathematics of law k01: lists of codes, no Python -/
namespace K1
open PySem

def S (l : List Nat) : Str := ⟨l.toArray⟩
theorem S_toList (l : List Nat) : (S l).cps.toList = l := rfl
theorem S_len (l : List Nat) : (S l).length = l.length := by show l.toArray.size = _; simp
theorem S_of (z : Str) : S z.cps.toList = z := by cases z; rfl
theorem S_app (a b : List Nat) : S a ++ S b = S (a ++ b) := by
  show (⟨a.toArray ++ b.toArray⟩ : Str) = ⟨(a ++ b).toArray⟩
  rw [List.append_toArray]
theorem S_inj {a b : List Nat} (h : S a = S b) : a = b := congrArg (fun z : Str => z.cps.toList) h

/-! ### finding a sign -/
section
open Builtin Builtin.Str StrLaws
theorem occ_stop (s sub : Str) (hi : Nat) : ∀ (l : List Nat) (st : Array Nat × Nat), st.fst.size = 1 → (forIn l st (occBody s sub hi 1)).run.fst = st.fst
  | [], st, h => rfl
  | a :: l, st, h => by
    rw [List.forIn_cons]
    unfold occBody
    rw [if_neg (fun z => by have := z.1.1.1; omega)]
    exact occ_stop s sub hi l st h
theorem occ_first (x : Str) (c : Nat) : ∀ (m cur free : Nat), free ≤ cur →
    ((∀ k, cur ≤ k → k < cur + m → x.cps.toList[k]? ≠ some c) ∧ (forIn (List.range' cur m) ((#[] : Array Nat), free) (occBody x ⟨#[c]⟩ x.length 1)).run.fst = #[]) ∨
    ∃ k, cur ≤ k ∧ k < cur + m ∧ x.cps.toList[k]? = some c ∧ (∀ j, cur ≤ j → j < k → x.cps.toList[j]? ≠ some c) ∧ (forIn (List.range' cur m) ((#[] : Array Nat), free) (occBody x ⟨#[c]⟩ x.length 1)).run.fst = #[k]
  | 0, cur, free, h => .inl ⟨fun k h1 h2 => by omega, rfl⟩
  | m + 1, cur, free, h => by
    rw [List.range'_succ, List.forIn_cons]
    unfold occBody
    by_cases hc : x.cps.toList[cur]? = some c
    · have q := (subAt_one x c cur).mpr hc
      rw [if_pos ⟨⟨⟨by simp, h⟩, q.1⟩, q.2⟩]
      refine .inr ⟨cur, Nat.le_refl _, by omega, hc, fun j h1 h2 => by omega, ?_⟩
      exact occ_stop x _ _ _ _ rfl
    · rw [if_neg (fun z => hc ((subAt_one x c cur).mp ⟨z.1.2, z.2⟩))]
      rcases occ_first x c m (cur + 1) free (by omega) with ⟨h1, h2⟩ | ⟨k, h1, h2, h3, h4, h5⟩
      · refine .inl ⟨fun k k1 k2 => ?_, h2⟩
        by_cases e : k = cur
        · rw [e]; exact hc
        · exact h1 k (by omega) (by omega)
      · refine .inr ⟨k, by omega, by omega, h3, fun j j1 j2 => ?_, h5⟩
        by_cases e : j = cur
        · rw [e]; exact hc
        · exact h4 j (by omega) j2
/-- s.find(c, i): the first place from i on -/
theorem find_one (x : Str) (c i : Nat) (hi : i ≤ x.length) :
    (Txt.find3 x ⟨#[c]⟩ (i : Nat) = -1 ∧ c ∉ x.cps.toList.drop i) ∨
    ∃ k : Nat, Txt.find3 x ⟨#[c]⟩ (i : Nat) = ((i + k : Nat) : Int) ∧ (x.cps.toList.drop i)[k]? = some c ∧ c ∉ (x.cps.toList.drop i).take k := by
  have e : fromIndex x.length (i : Nat) = i := by
    show (max (0 : Int) (if ((i : Nat) : Int) < 0 then _ else ((i : Nat) : Int))).toNat = i
    rw [if_neg (by omega)]
    omega
  unfold Txt.find3
  rw [e, occ_eq]
  have xl : x.length = x.cps.toList.length := by show x.cps.size = _; simp
  rcases occ_first x c (x.length + 1 - i) i i (Nat.le_refl _) with ⟨h1, h2⟩ | ⟨k, h1, h2, h3, h4, h5⟩
  · left
    rw [h2]
    refine ⟨rfl, fun hm => ?_⟩
    obtain ⟨j, hj⟩ := List.getElem?_of_mem hm
    rw [List.getElem?_drop] at hj
    have := (List.getElem?_eq_some_iff.mp hj).1
    exact h1 (i + j) (by omega) (by omega) hj
  · right
    rw [h5]
    refine ⟨k - i, ?_, ?_, fun hm => ?_⟩
    · show ((k : Nat) : Int) = _
      omega
    · rw [List.getElem?_drop, show i + (k - i) = k by omega]
      exact h3
    · obtain ⟨j, hj⟩ := List.getElem?_of_mem hm
      have hlt : j < k - i := by
        have := (List.getElem?_eq_some_iff.mp hj).1
        rw [List.length_take] at this
        omega
      rw [List.getElem?_take_of_lt hlt, List.getElem?_drop] at hj
      exact h4 (i + j) (by omega) (by omega) hj
end

/-! ### tokens -/
def LET : List Nat := ("abcdefghijklmnopqrstuvwxyz" : Str).cps.toList
def DIG : List Nat := ("0123456789" : Str).cps.toList
def SGN : List Nat := ("(),;+-*<=" : Str).cps.toList
def mayB (c : Nat) : Bool := decide (32 ≤ c ∧ c ≤ 126 ∧ c ≠ 37 ∧ c ≠ 34 ∧ c ≠ 124)
/-- how many of cs stand at the beginning -/
def run (cs l : List Nat) : Nat := (l.takeWhile fun c => decide (c ∈ cs)).length
def val (ds : List Nat) : Nat := ds.foldl (fun acc c => acc * 10 + (c - 48)) 0
inductive Tok where
  | word (l : List Nat) | num (n : Nat) | str (l : List Nat) | sign (c : Nat)
/-- the text of a number -/
def numT (n : Nat) : List Nat := (Str.ofString (toString (n : Int))).cps.toList
/-- how far the next quote is -/
def toQ (r : List Nat) : Nat := (r.takeWhile fun d => d != 34).length
/-- the token at the beginning, and how many signs it has -/
def lexC (c : Nat) (r : List Nat) : Option (Tok × Nat) :=
    if c ∈ LET then (if run LET (c :: r) ≤ 6 then some (.word ((c :: r).take (run LET (c :: r))), run LET (c :: r)) else none)
    else if c ∈ DIG then
      (if run DIG (c :: r) ≤ 5 ∧ (c :: r).take (run DIG (c :: r)) = numT (val ((c :: r).take (run DIG (c :: r)))) then
        some (.num (val ((c :: r).take (run DIG (c :: r)))), run DIG (c :: r)) else none)
    else if c = 34 then
      (if toQ r < r.length ∧ toQ r ≤ 20 ∧ (r.take (toQ r)).all mayB = true then some (.str (r.take (toQ r)), toQ r + 2) else none)
    else if c ∈ SGN then some (.sign c, 1) else none
/-- how a line is split -/
inductive Lex : List Nat → Option (List Tok) → Prop
  | nil : Lex [] (some [])
  | sp {r o} : Lex r o → Lex (32 :: r) o
  | bad {c r} : c ≠ 32 → lexC c r = none → Lex (c :: r) none
  | tok {c r t k o} : c ≠ 32 → lexC c r = some (t, k) → Lex ((c :: r).drop k) o → Lex (c :: r) (o.map (t :: ·))

theorem run_le (cs l : List Nat) : run cs l ≤ l.length := (List.takeWhile_sublist _).length_le
theorem run_pos {cs : List Nat} {c : Nat} {r : List Nat} (h : c ∈ cs) : 1 ≤ run cs (c :: r) := by
  unfold run
  rw [List.takeWhile_cons, if_pos (decide_eq_true h)]
  simp
theorem lexC_pos {c : Nat} {r : List Nat} {t : Tok} {k : Nat} (h : lexC c r = some (t, k)) : 1 ≤ k := by
  unfold lexC at h
  by_cases h1 : c ∈ LET
  · rw [if_pos h1] at h
    split at h
    · cases h
      exact run_pos h1
    · cases h
  rw [if_neg h1] at h
  by_cases h2 : c ∈ DIG
  · rw [if_pos h2] at h
    split at h
    · cases h
      exact run_pos h2
    · cases h
  rw [if_neg h2] at h
  by_cases h3 : c = 34
  · rw [if_pos h3] at h
    split at h
    · cases h
      omega
    · cases h
  rw [if_neg h3] at h
  split at h
  · cases h
    exact Nat.le_refl _
  · cases h
/-- every line is split in some way -/
theorem lex_all : ∀ (n : Nat) (l : List Nat), l.length ≤ n → ∃ o, Lex l o
  | _, [], _ => ⟨_, .nil⟩
  | 0, _ :: _, h => by simp at h
  | n + 1, c :: r, h => by
    have hr : r.length ≤ n := by simpa using h
    by_cases hc : c = 32
    · obtain ⟨o, ho⟩ := lex_all n r hr
      subst hc
      exact ⟨o, .sp ho⟩
    · cases e : lexC c r with
      | none => exact ⟨none, .bad hc e⟩
      | some tk =>
        obtain ⟨t, k⟩ := tk
        have hk := lexC_pos e
        obtain ⟨o, ho⟩ := lex_all n ((c :: r).drop k) (by rw [List.length_drop, List.length_cons]; omega)
        exact ⟨_, .tok hc e ho⟩
/-! ### quotes come in twos -/
def q34 (l : List Nat) : Nat := l.count 34
theorem q34_none {l : List Nat} (h : 34 ∉ l) : q34 l = 0 := List.count_eq_zero.mpr h
theorem q34_app (a b : List Nat) : q34 (a ++ b) = q34 a + q34 b := List.count_append
theorem run_take (cs l : List Nat) : l.take (run cs l) = l.takeWhile fun c => decide (c ∈ cs) := by
  unfold run
  exact (List.prefix_iff_eq_take.mp (List.takeWhile_prefix _)).symm
theorem mem_tw {p : Nat → Bool} {x : Nat} : ∀ {l : List Nat}, x ∈ l.takeWhile p → p x = true
  | [], h => by cases h
  | a :: l, h => by
    rw [List.takeWhile_cons] at h
    split at h
    · rename_i ha
      rcases List.mem_cons.mp h with rfl | h
      · exact ha
      · exact mem_tw h
    · cases h
theorem mem_run {cs l : List Nat} {c : Nat} (h : c ∈ l.take (run cs l)) : c ∈ cs := by
  rw [run_take] at h
  exact of_decide_eq_true (mem_tw h)
theorem at_tw {p : Nat → Bool} : ∀ {l : List Nat}, (l.takeWhile p).length < l.length → ∃ x, l[(l.takeWhile p).length]? = some x ∧ p x = false
  | [], h => by cases h
  | a :: l, h => by
    rw [List.takeWhile_cons] at h ⊢
    cases ha : p a with
    | true =>
      rw [ha] at h
      simp only [if_true, List.length_cons] at h ⊢
      obtain ⟨x, h1, h2⟩ := at_tw (p := p) (l := l) (by omega)
      exact ⟨x, by simpa using h1, h2⟩
    | false => exact ⟨a, by simp, ha⟩
theorem take_tw {p : Nat → Bool} (l : List Nat) : l.take (l.takeWhile p).length = l.takeWhile p := (List.prefix_iff_eq_take.mp (List.takeWhile_prefix _)).symm
theorem lexC_even {c : Nat} {r : List Nat} {t : Tok} {k : Nat} (h : lexC c r = some (t, k)) : q34 ((c :: r).take k) % 2 = 0 := by
  unfold lexC at h
  by_cases h1 : c ∈ LET
  · rw [if_pos h1] at h
    split at h
    · cases h
      rw [q34_none (fun z => absurd (mem_run z) (by decide))]
    · cases h
  rw [if_neg h1] at h
  by_cases h2 : c ∈ DIG
  · rw [if_pos h2] at h
    split at h
    · cases h
      rw [q34_none (fun z => absurd (mem_run z) (by decide))]
    · cases h
  rw [if_neg h2] at h
  by_cases h3 : c = 34
  · rw [if_pos h3] at h
    split at h
    · rename_i hk
      cases h
      subst h3
      have n1 : 34 ∉ r.take (toQ r) := fun z => by
        unfold toQ at z
        rw [take_tw] at z
        have := mem_tw z
        simp at this
      obtain ⟨x, hx, hp⟩ := at_tw (p := fun d => d != 34) (l := r) hk.1
      have hx' : x = 34 := by simpa using hp
      subst hx'
      have hx : r[toQ r]? = some 34 := hx
      rw [List.take_succ_cons, List.take_add_one, hx]
      show q34 ([34] ++ (r.take _ ++ [34])) % 2 = 0
      rw [q34_app, q34_app, q34_none n1]
      rfl
    · cases h
  rw [if_neg h3] at h
  split at h
  · cases h
    show q34 [c] % 2 = 0
    rw [q34_none (fun z => h3 (List.mem_singleton.mp z).symm)]
  · cases h
theorem lex_even {l : List Nat} {o : Option (List Tok)} (h : Lex l o) : o ≠ none → q34 l % 2 = 0 := by
  induction h with
  | nil => exact fun _ => rfl
  | sp _ ih =>
    intro h
    show q34 ([32] ++ _) % 2 = 0
    rw [q34_app]
    have := ih h
    have e : q34 [32] = 0 := rfl
    omega
  | bad _ _ => exact fun h => absurd rfl h
  | @tok c r t k o _ e _ ih =>
    intro h
    have h1 := lexC_even e
    have h2 := ih (fun z => h (by rw [z]; rfl))
    have e := q34_app ((c :: r).take k) ((c :: r).drop k)
    rw [List.take_append_drop] at e
    omega

/-! ### texts that are joined -/
/-- a token of the law's menu, spelled -/
def spell : Tok → List Nat
  | .word l => l
  | .num n => numT n
  | .str l => [34] ++ l ++ [34]
  | .sign c => [c]
/-- a token that is well made -/
def good : Tok → Prop
  | .word l => l ≠ [] ∧ l.length ≤ 6 ∧ ∀ c ∈ l, c ∈ LET
  | .num n => n ≤ 99999
  | .str l => l.length ≤ 20 ∧ ∀ c ∈ l, mayB c = true
  | .sign c => c ∈ SGN
/-- what may follow a token -/
def apart : Tok → List Nat → Prop
  | .word _, l => ∀ c r, l = c :: r → c ∉ LET
  | .num _, l => ∀ c r, l = c :: r → c ∉ DIG
  | _, _ => True
theorem run_all {cs a b : List Nat} (ha : ∀ c ∈ a, c ∈ cs) (hb : ∀ c r, b = c :: r → c ∉ cs) : run cs (a ++ b) = a.length := by
  unfold run
  rw [List.takeWhile_append_of_pos (fun c hc => decide_eq_true (ha c hc)), List.length_append]
  cases b with
  | nil => simp
  | cons c r => rw [List.takeWhile_cons, if_neg (by simpa using hb c r rfl)]; simp
theorem digits_len : ∀ (k m : Nat), m < 10 ^ (k + 1) → (Nat.toDigits 10 m).length ≤ k + 1
  | k, m, h => by
    by_cases hm : m < 10
    · rw [Nat.toDigits_of_lt_base hm]
      exact Nat.le_add_left _ _
    · cases k with
      | zero => exact absurd h hm
      | succ k =>
        have lt : m % 10 < 10 := Nat.mod_lt m (by decide)
        have t : Nat.toDigits 10 (m / 10) ++ Nat.toDigits 10 (m % 10) = Nat.toDigits 10 (10 * (m / 10) + m % 10) := Nat.toDigits_append_toDigits (by decide) (by omega) lt
        rw [Nat.div_add_mod] at t
        rw [← t, List.length_append, Nat.toDigits_of_lt_base lt]
        have := digits_len k (m / 10) (by rw [Nat.pow_succ] at h; omega)
        show (Nat.toDigits 10 (m / 10)).length + 1 ≤ k + 1 + 1
        omega
theorem numT_eq (n : Nat) : numT n = (Nat.toDigits 10 n).map Char.toNat := PySem.W.KIN.signs_num n
theorem numT_dig {n : Nat} (h : n ≤ 99999) : numT n ≠ [] ∧ (numT n).length ≤ 5 ∧ (∀ c ∈ numT n, c ∈ DIG) ∧ val (numT n) = n := by
  rw [numT_eq]
  refine ⟨fun e => ?_, ?_, fun c hc => ?_, PySem.W.KIN.val_back n⟩
  · have := PySem.W.KIN.val_back n
    have q := List.map_eq_nil_iff.mp e
    have l := toDigits_len_ge 10 n
    rw [q] at l
    exact absurd l (by decide)
  · rw [List.length_map]
    exact digits_len 4 n (by omega)
  · obtain ⟨ch, hch, e⟩ := List.mem_map.mp hc
    have r := PyProof.Rows.digit_range (Nat.isDigit_of_mem_toDigits (by decide) (by decide) hch)
    have hD : ∀ d, 48 ≤ d → d ≤ 57 → d ∈ DIG := by
      intro d h1 h2
      have : ∀ k, k < 10 → 48 + k ∈ DIG := by decide
      have q := this (d - 48) (by omega)
      rw [show 48 + (d - 48) = d by omega] at q
      exact q
    rw [← e]
    exact hD _ r.1 r.2
theorem let_dig {c : Nat} (h : c ∈ DIG) : c ∉ LET := fun z => by
  have : ∀ c ∈ DIG, c ∉ LET := by decide
  exact this c h z
theorem take_all {a b : List Nat} : (a ++ b).take a.length = a := List.take_left' rfl
theorem lex_spell {t : Tok} {b : List Nat} (g : good t) (ap : apart t b) : ∃ c r, spell t ++ b = c :: r ∧ c ≠ 32 ∧ lexC c r = some (t, (spell t).length) := by
  cases t with
  | word l =>
    obtain ⟨h1, h2, h3⟩ := g
    cases l with
    | nil => exact absurd rfl h1
    | cons c r =>
      have hc : c ∈ LET := h3 c List.mem_cons_self
      refine ⟨c, r ++ b, rfl, fun z => absurd hc (by rw [z]; decide), ?_⟩
      unfold lexC
      have e : run LET (c :: (r ++ b)) = (c :: r).length := run_all (a := c :: r) h3 ap
      rw [if_pos hc, e, if_pos h2]
      show some (Tok.word (((c :: r) ++ b).take (c :: r).length), _) = _
      rw [take_all]
      rfl
  | num n =>
    obtain ⟨h1, h2, h3, h4⟩ := numT_dig (show n ≤ 99999 from g)
    show ∃ c r, numT n ++ b = c :: r ∧ c ≠ 32 ∧ lexC c r = some (Tok.num n, (numT n).length)
    obtain ⟨l, hl⟩ : ∃ l, l = numT n := ⟨_, rfl⟩
    rw [← hl] at h1 h2 h3 h4 ⊢
    cases l with
    | nil => exact absurd rfl h1
    | cons c r =>
      have hc : c ∈ DIG := h3 c List.mem_cons_self
      refine ⟨c, r ++ b, rfl, fun z => absurd hc (by rw [z]; decide), ?_⟩
      unfold lexC
      have e : run DIG (c :: (r ++ b)) = (c :: r).length := run_all (a := c :: r) h3 ap
      have e2 : (c :: (r ++ b)).take (c :: r).length = c :: r := take_all (a := c :: r) (b := b)
      rw [if_neg (let_dig hc), if_pos hc, e, e2, h4, if_pos ⟨h2, hl⟩]
  | str l =>
    obtain ⟨h1, h2⟩ := g
    refine ⟨34, l ++ [34] ++ b, rfl, by decide, ?_⟩
    unfold lexC
    have n34 : ∀ c ∈ l, (c != 34) = true := fun c hc => by
      have := h2 c hc
      unfold mayB at this
      have := of_decide_eq_true this
      simp [this.2.2.2.1]
    have e : toQ (l ++ [34] ++ b) = l.length := by
      unfold toQ
      rw [List.append_assoc, List.takeWhile_append_of_pos n34, List.length_append]
      show l.length + (List.takeWhile _ (34 :: b)).length = _
      rw [List.takeWhile_cons, if_neg (by decide)]
      rfl
    have e2 : (l ++ [34] ++ b).take l.length = l := by rw [List.append_assoc]; exact take_all
    rw [if_neg (by decide), if_neg (by decide), if_pos rfl, e, e2, if_pos ⟨by simp, h1, List.all_eq_true.mpr h2⟩]
    show some (Tok.str l, l.length + 2) = some (Tok.str l, ([34] ++ l ++ [34]).length)
    simp
  | sign c =>
    have hs : c ∈ SGN := g
    have hd : ∀ c ∈ SGN, c ∉ LET ∧ c ∉ DIG ∧ c ≠ 34 ∧ c ≠ 32 := by decide
    obtain ⟨h1, h2, h3, h4⟩ := hd c hs
    refine ⟨c, b, rfl, h4, ?_⟩
    unfold lexC
    rw [if_neg h1, if_neg h2, if_neg h3, if_pos hs]
    rfl

/-- tokens with gaps of blanks behind them -/
def joined : List (Tok × Nat) → List Nat
  | [] => []
  | (t, g) :: r => spell t ++ List.replicate g 32 ++ joined r
/-- where a gap must stand -/
def gapped : List (Tok × Nat) → Prop
  | (t, g) :: (u, h) :: r => (g = 0 → apart t (spell u ++ (List.replicate h 32 ++ joined r))) ∧ gapped ((u, h) :: r)
  | _ => True
theorem lex_blanks {l : List Nat} {o : Option (List Tok)} (h : Lex l o) : ∀ g, Lex (List.replicate g 32 ++ l) o
  | 0 => h
  | g + 1 => by
    rw [List.replicate_succ]
    exact .sp (lex_blanks h g)
/-- a joined text is split into its tokens, and what stands behind is split as it is -/
theorem lex_joined {tail : List Nat} {o : Option (List Tok)} (ht : Lex tail o) (hs : ∀ c r, tail = c :: r → c = 32) :
    ∀ (l : List (Tok × Nat)), (∀ p ∈ l, good p.1) → gapped l → Lex (joined l ++ tail) (o.map (l.map (·.1) ++ ·))
  | [], _, _ => by
    have e : (o.map (([] : List (Tok × Nat)).map (·.1) ++ ·)) = o := by cases o <;> rfl
    rw [e]
    exact ht
  | (t, g) :: r, hg, hp => by
    have hr : Lex (joined r ++ tail) (o.map (r.map (·.1) ++ ·)) := lex_joined ht hs r (fun p h => hg p (List.mem_cons_of_mem _ h)) (by cases r with | nil => trivial | cons a b => exact hp.2)
    have ap : apart t (List.replicate g 32 ++ (joined r ++ tail)) := by
      have sp : ∀ l : List Nat, apart t (32 :: l) := fun l => by
        cases t with
        | word _ => exact fun c r e => by cases e; decide
        | num _ => exact fun c r e => by cases e; decide
        | str _ => trivial
        | sign _ => trivial
      cases g with
      | succ g => exact sp _
      | zero =>
        cases r with
        | nil =>
          cases tail with
          | nil => cases t <;> first | trivial | exact fun c r e => by cases e
          | cons c q => rw [hs c q rfl]; exact sp _
        | cons a b =>
          obtain ⟨u, h⟩ := a
          have q := hp.1 rfl
          show apart t (spell u ++ List.replicate h 32 ++ joined b ++ tail)
          have ne : spell u ≠ [] := by
            have gu := hg (u, h) (by simp)
            cases u with
            | word l => exact gu.1
            | num n => exact (numT_dig gu).1
            | str l => exact fun z => by cases z
            | sign c => exact fun z => by cases z
          cases e : spell u with
          | nil => exact absurd e ne
          | cons c v =>
            rw [e] at q
            cases t with
            | word _ => exact fun c' r' e' => by cases e'; exact q c _ rfl
            | num _ => exact fun c' r' e' => by cases e'; exact q c _ rfl
            | str _ => trivial
            | sign _ => trivial
    obtain ⟨c, v, e1, e2, e3⟩ := lex_spell (hg (t, g) List.mem_cons_self) ap
    have e0 : joined ((t, g) :: r) ++ tail = spell t ++ (List.replicate g 32 ++ (joined r ++ tail)) := by
      show spell t ++ List.replicate g 32 ++ joined r ++ tail = _
      simp only [List.append_assoc]
    rw [e0, e1]
    have e4 : (c :: v).drop (spell t).length = List.replicate g 32 ++ (joined r ++ tail) := by
      rw [← e1]
      exact List.drop_left' rfl
    have := Lex.tok e2 e3 (by rw [e4]; exact lex_blanks hr g)
    cases o with
    | none => exact this
    | some ts => exact this
end K1

set_option maxRecDepth 100000
set_option maxHeartbeats 4000000
namespace K1
open PySem PySem.Spec PyProof.Rows L2 GD
section
variable {P : Program} {w : World} {K : PySem.W.Frag} {mg : Str → Option Value} {base : Heap}

theorem item_S {L : List Nat} {i : Nat} {c : Nat} (h : L[i]? = some c) : (S L).cps[((i : Nat) : Int).toNat]? = some c := by
  show (L.toArray)[i]? = some c
  simpa using h
theorem cut_S (L : List Nat) (a b : Nat) (h1 : a ≤ b) (h2 : b ≤ L.length) : cutS (S L) (some (a : Nat)) (some (b : Nat)) = S ((L.drop a).take (b - a)) := by
  unfold cutS
  rw [S_len, HT.sIx_nat, HT.sIx_nat, Nat.min_eq_left h2, Nat.min_eq_left (by omega)]
  rfl
theorem smallL {n : Nat} (h : n ≤ 5000) : n ≤ sizeLine := Nat.le_trans h (by decide)

theorem in63 {L : List Nat} {e : Nat} (hl : L.length ≤ 5000) (lt : e < L.length) : ((e : Nat) : Int) < 2 ^ 63 := by
  have : e < 5000 := by omega
  omega
theorem in_S {L : List Nat} {e : Nat} (lt : e < L.length) : ((e : Nat) : Int) < (S L).length := by
  rw [S_len]
  omega
/-! ### end_of_run -/
def endRun (cs L : List Nat) (at_ : Nat) : Nat := at_ + run cs (L.drop at_)
theorem run_drop {cs L : List Nat} {i c : Nat} (h : L[i]? = some c) (hc : c ∈ cs) : endRun cs L i = endRun cs L (i + 1) := by
  unfold endRun run
  have e : L.drop i = c :: L.drop (i + 1) := by
    obtain ⟨h1, h2⟩ := List.getElem?_eq_some_iff.mp h
    rw [List.drop_eq_getElem_cons h1, h2]
  rw [e, List.takeWhile_cons, if_pos (decide_eq_true hc), List.length_cons]
  omega
theorem run_stop {cs L : List Nat} {i : Nat} (h : ∀ c, L[i]? = some c → c ∉ cs) : endRun cs L i = i := by
  unfold endRun run
  cases e : L.drop i with
  | nil => rfl
  | cons c r =>
    have q : L[i]? = some c := by
      have : (L.drop i)[0]? = some c := by rw [e]; rfl
      rw [List.getElem?_drop] at this
      exact this
    rw [List.takeWhile_cons, if_neg (by simpa using h c q)]
    rfl
def spEnd : Sp := fun vs H Q _ => ∃ (L cs : List Nat) (at_ : Nat), vs = [.str (S L), .int (at_ : Nat), .str (S cs)] ∧ at_ ≤ L.length ∧ L.length ≤ 5000 ∧ Q (.int (endRun cs L at_ : Nat)) H
theorem scEnd : FnScope ["line", "at", "characters", "end"] ["line", "at", "characters"] (defScope sEndOfRun) := ⟨rfl, rfl, rfl, by decide +kernel, rfl, by decide +kernel, by decide +kernel⟩
theorem ok_end {f : Addr} {fd : FuncData} (F : Fun K "end_of_run" "end_of_run" sEndOfRun f fd) (T : Txt K mg) : FnOk P w K mg base CX0 1 f fd ["line", "at", "characters"] spEnd := by
  have sc := scEnd
  refine F.ok sc (fun vs H Q E h => ?_) (fun cdv A outer s H vs Q E hr h => ?_)
  · obtain ⟨L, cs, at_, rfl, _⟩ := h
    rfl
  · obtain ⟨L, cs, at_, rfl, ha, hl, q⟩ := h
    refine ⟨_, (pss_cons (ps_set (i := 3) sc.nd rfl (.inl rfl) (pv 1))
(pss_cons (ps_while PassesOwn.never (PW.pt (pw_and (pt_cmpR op_lt (pv 3) (pe_callB call_len_str (by rfl) T.len (by decide +kernel) (pa_cons (pv 0) pa_nil)) (nomark _)) (pw_and1 (pt_cmpR op_in_sign (pe_item_str (pv 0) (pv 3) (fun _ _ => rfl)) (pv 2) rfl))))
(pss_one (ps_aug (i := 3) sc.nd rfl (.inl rfl) pe_int ip_add)))
(pss_one (ps_ret (pv 3))))), ?_⟩
    refine ⟨_, rfl, fun m σ H' => ∃ e : Nat, σ = [some (.str (S L)), some (.int (at_ : Nat)), some (.str (S cs)), some (.int (e : Nat))] ∧ H' = H ∧ e ≤ L.length ∧ m = L.length - e ∧ endRun cs L e = endRun cs L at_, ⟨_, at_, rfl, rfl, ha, rfl, rfl⟩, ?_⟩
    rintro m σ H' ⟨e, rfl, rfl, he, rfl, hq⟩
    have done : endRun cs L e = e → Q (.int (e : Nat)) H' := fun z => by rw [← hq, z] at q; exact q
    refine ⟨_, rfl, _, rfl, _, rfl, by rw [S_len]; exact smallL hl, _, _, rfl, rfl, _, rfl, ?_⟩
    refine ite2 (fun h1 => ?_) (fun h1 => ?_)
    · have lt : e < L.length := by
        have := of_decide_eq_true h1
        rw [S_len] at this
        omega
      have hx := List.getElem?_eq_getElem lt
      refine ⟨_, rfl, _, rfl, _, _, _, rfl, rfl, by omega, in63 hl lt, in_S lt, item_S hx, _, rfl, _, _, rfl, rfl, _, rfl, ite2 (fun h2 => ?_) (fun h2 => ?_)⟩
      · have h2 : L[e] ∈ cs := of_decide_eq_true h2
        refine ⟨fun σ' H2 => σ' = [some (.str (S L)), some (.int (at_ : Nat)), some (.str (S cs)), some (.int ((e + 1 : Nat) : Int))] ∧ H2 = H', fun σ' H2 h => ?_, _, rfl, _, _, rfl, rfl, rfl, rfl⟩
        obtain ⟨rfl, rfl⟩ := h
        exact ⟨_, by omega, e + 1, rfl, rfl, lt, rfl, by rw [← run_drop hx h2]; exact hq⟩
      · have h2 : L[e] ∉ cs := fun z => h2 (decide_eq_true z)
        exact ⟨_, rfl, done (run_stop fun c hc => by rw [hx] at hc; cases hc; exact h2)⟩
    · have ge : e = L.length := by
        have : ¬ ((e : Int) < (S L).length) := fun z => h1 (decide_eq_true z)
        rw [S_len] at this
        omega
      refine iteF ⟨_, rfl, done (run_stop fun c hc => ?_)⟩
      rw [ge, List.getElem?_eq_none (Nat.le_refl _)] at hc
      cases hc
end
end K1

set_option maxRecDepth 100000
set_option maxHeartbeats 4000000
namespace K1
open PySem PySem.Spec PyProof.Rows L2 GD
theorem pe_gstr {X : Cx} {x z : Str} {t : PySem.Tok} {pos : Pos} (hg : Gl X x) (hm : X.mg x = some (.str z t)) (hd : (x == ("__debug__" : Str)) = false := by decide) : PE X (.Name x pos) (tC (.str z)) := pe_glob hg hm ⟨_, rfl⟩ hd
theorem pe_gint {X : Cx} {x : Str} {i : Int} {t : PySem.Tok} {pos : Pos} (hg : Gl X x) (hm : X.mg x = some (.int i t)) (hd : (x == ("__debug__" : Str)) = false := by decide) : PE X (.Name x pos) (tC (.int i)) := pe_glob hg hm ⟨_, rfl⟩ hd
/-- all is kept but the table at P, which may have grown -/
def Kp (P : Addr) (H H' : Hp) : Prop := GxR.TabG H' P ∧ ∀ b o, b ≠ P → H b = some o → H' b = some o
theorem Same.kp {P : Addr} {H H' : Hp} (s : Same H H') (t : GxR.TabG H P) : Kp P H H' := by
  obtain ⟨ps, e, r⟩ := t
  exact ⟨⟨ps, s _ _ e, r⟩, fun b o _ h => s b o h⟩
theorem Kp.refl {P : Addr} {H : Hp} (t : GxR.TabG H P) : Kp P H H := Same.kp (Same.refl H) t
theorem Kp.trans {P : Addr} {H H1 H2 : Hp} (a : Kp P H H1) (b : Kp P H1 H2) : Kp P H H2 := ⟨b.1, fun c o n h => b.2 c o n (a.2 c o n h)⟩
theorem Kp.of {P : Addr} {H H' : Hp} (t : GxR.Tabbed P H H') : Kp P H H' := ⟨t.1, fun b o n h => by rw [t.2 b n]; exact h⟩
theorem TabG.ne {P p : Addr} {H : Hp} (t : GxR.TabG H P) (n : H p = none) : p ≠ P := fun e => by
  obtain ⟨ps, h, _⟩ := t
  rw [e, h] at n
  cases n
theorem Kp.free {P p : Addr} {H H' : Hp} (k : Kp P H H') (n : H' p = none) (t : GxR.TabG H P) : H p = none := by
  cases e : H p with
  | none => rfl
  | some o =>
    have := k.2 p o (TabG.ne k.1 n) e
    rw [n] at this
    cases this

theorem two_le : 2 ≤ sizeLine := by decide
def tokV : Tok → List V
  | .word l => [.str "word", .str (S l)]
  | .num n => [.str "number", .int (n : Nat)]
  | .str l => [.str "string", .str (S l)]
  | .sign c => [.str "sign", .str (S [c])]
/-- what a def gives back that reads one token -/
def TokRes (P : Addr) (H : Hp) (at_ : Nat) (o : Option (Tok × Nat)) (H' : Hp) (p : Addr) : Prop :=
  Kp P H H' ∧ H p = none ∧ (o = none → ∃ e : Int, H' p = some (.tup [.non, .int e])) ∧
    ∀ t k, o = some (t, k) → ∃ q, H q = none ∧ H' p = some (.tup [.ref q, .int ((at_ + k : Nat) : Int)]) ∧ H' q = some (.tup (tokV t))
def spTok (P : Addr) (ok : Nat → Prop) : Sp := fun vs H Q _ => ∃ (L : List Nat) (at_ c : Nat), vs = [.str (S L), .int (at_ : Nat)] ∧ L[at_]? = some c ∧ ok c ∧ L.length ≤ 5000 ∧ GxR.TabG H P ∧
  ∀ H' p, TokRes P H at_ (lexC c (L.drop (at_ + 1))) H' p → Q (.ref p) H'
theorem tok_none {P : Addr} {H : Hp} {at_ : Nat} {e : Int} {p : Addr} (t : GxR.TabG H P) (n : H p = none) : TokRes P H at_ none (upd H p (.tup [.non, .int e])) p :=
  ⟨Same.kp (Same.lst (Same.refl H) n) t, n, fun _ => ⟨e, upd_same⟩, fun _ _ z => by cases z⟩
theorem tok_some {P : Addr} {H : Hp} {at_ k : Nat} {t : Tok} {p q : Addr} (tb : GxR.TabG H P) (n : H q = none) (n2 : (upd H q (.tup (tokV t))) p = none) :
    TokRes P H at_ (some (t, k)) (upd (upd H q (.tup (tokV t))) p (.tup [.ref q, .int ((at_ + k : Nat) : Int)])) p := by
  have s1 : Same H (upd H q (.tup (tokV t))) := Same.lst (Same.refl H) n
  have np : H p = none := s1.free n2
  have ne : q ≠ p := ne_of_none (upd_same (H := H) (a := q) (o := .tup (tokV t))) n2
  refine ⟨Same.kp (Same.lst s1 np) tb, np, (fun z => by cases z), fun t' k' z => ?_⟩
  cases z
  exact ⟨q, n, upd_same, by rw [upd_ne ne, upd_same]⟩
theorem tok_kp {P : Addr} {H H1 H' : Hp} {at_ : Nat} {o : Option (Tok × Nat)} {p : Addr} (k : Kp P H H1) (tb : GxR.TabG H P) (r : TokRes P H1 at_ o H' p) : TokRes P H at_ o H' p := by
  obtain ⟨k1, n, h1, h2⟩ := r
  refine ⟨k.trans k1, k.free n tb, h1, fun t k' e => ?_⟩
  obtain ⟨q, n', e1, e2⟩ := h2 t k' e
  exact ⟨q, k.free n' tb, e1, e2⟩

section
variable {P : Program} {w : World} {K : PySem.W.Frag} {mg : Str → Option Value} {base : Heap}
theorem drop_at {L : List Nat} {i c : Nat} (h : L[i]? = some c) : L.drop i = c :: L.drop (i + 1) := by
  obtain ⟨h1, h2⟩ := List.getElem?_eq_some_iff.mp h
  rw [List.drop_eq_getElem_cons h1, h2]
theorem lt_at {L : List Nat} {i c : Nat} (h : L[i]? = some c) : i < L.length := (List.getElem?_eq_some_iff.mp h).1
theorem letS : (("abcdefghijklmnopqrstuvwxyz" : Str)) = S LET := (S_of _).symm
theorem digS : (("0123456789" : Str)) = S DIG := (S_of _).symm
theorem sgnS : (("(),;+-*<=" : Str)) = S SGN := (S_of _).symm
theorem cut_run {cs L : List Nat} {at_ : Nat} (h : at_ ≤ L.length) : cutS (S L) (some (at_ : Nat)) (some ((endRun cs L at_ : Nat) : Int)) = S ((L.drop at_).take (run cs (L.drop at_))) := by
  have := run_le cs (L.drop at_)
  rw [List.length_drop] at this
  rw [cut_S L at_ (endRun cs L at_) (by unfold endRun; omega) (by unfold endRun; omega)]
  unfold endRun
  rw [Nat.add_sub_cancel_left]

/-! ### word_at -/
theorem scWord : FnScope ["line", "at", "end"] ["line", "at"] (defScope sWordAt) := ⟨rfl, rfl, rfl, by decide +kernel, rfl, by decide +kernel, by decide +kernel⟩
theorem ok_word {f fe PT : Addr} {fd fde : FuncData} (F : Fun K "word_at" "word_at" sWordAt f fd) (T : Txt K mg) (FE : FnOk P w K mg base CX0 1 fe fde ["line", "at", "characters"] spEnd)
    (me : mg "end_of_run" = some (.ref fe)) (ke : PySem.W.keepIn K (.ref fe) = true) (be : Binds K fde ["line", "at", "characters"] []) : FnOk P w K mg base CX0 2 f fd ["line", "at"] (spTok PT (· ∈ LET)) := by
  have sc := scWord
  obtain ⟨tl, gl⟩ := T.LETTERS
  obtain ⟨tn, gn⟩ := T.NAME_MOST
  refine F.ok sc (fun vs H Q E h => ?_) (fun cdv A outer s H vs Q E hr h => ?_)
  · obtain ⟨L, a, c, rfl, _⟩ := h
    rfl
  · obtain ⟨L, a, c, rfl, hx, hc, hl, tb, q⟩ := h
    have lt := lt_at hx
    refine ⟨_, (pss_cons (ps_set (i := 2) sc.nd rfl (.inl rfl) (pe_call FE hr (by rfl) me ke be .nil pass0 (pa_cons (pv 0) (pa_cons (pv 1) (pa_cons (pe_gstr rfl gl) pa_nil)))))
(pss_cons (ps_if (pt_cmpR op_gt (pe_op op_sub (pv 2) (pv 1)) (pe_gint rfl gn) (nomark _))
(pss_one (ps_ret (pe_tup (pa_cons pe_non (pa_cons (pv 2) pa_nil))))) pss_nil)
(pss_one (ps_ret (pe_tup (pa_cons (pe_tup (pa_cons pe_str (pa_cons (pe_slice sl_str (pv 0) (po_some (pv 1)) (po_some (pv 2))) pa_nil))) (pa_cons (pv 2) pa_nil))))))), ?_⟩
    refine ⟨_, rfl, _, rfl, L, LET, a, by rw [letS]; rfl, Nat.le_of_lt lt, hl, ?_⟩
    have er : endRun LET L a = a + run LET (L.drop a) := rfl
    have ed := drop_at hx
    have elex : lexC c (L.drop (a + 1)) = (if run LET (L.drop a) ≤ 6 then some (.word ((L.drop a).take (run LET (L.drop a))), run LET (L.drop a)) else none) := by
      unfold lexC
      rw [if_pos hc, ← ed]
    refine ⟨_, rfl, _, rfl, _, _, rfl, rfl, _, _, rfl, rfl, _, rfl, ite2 (fun h => ?_) (fun h => ?_)⟩
    · have h1 : ¬ run LET (L.drop a) ≤ 6 := by
        have := of_decide_eq_true h
        rw [er] at this
        omega
      rw [if_neg h1] at elex
      rw [elex] at q
      exact ⟨_, rfl, two_le, fun p np => q _ p (tok_none tb np)⟩
    · have h1 : run LET (L.drop a) ≤ 6 := by
        have : ¬ ((6 : Int) < (endRun LET L a : Nat) - (a : Nat)) := fun z => h (decide_eq_true z)
        rw [er] at this
        omega
      rw [if_pos h1] at elex
      rw [elex] at q
      refine ⟨_, rfl, _, rfl, _, rfl, _, rfl, _, rfl, _, rfl, by rw [S_len]; exact smallL hl, two_le, fun u nu => ⟨_, rfl, two_le, fun p np => ?_⟩⟩
      rw [cut_run (Nat.le_of_lt lt)] at np ⊢
      rw [er]
      exact q _ p (tok_some tb nu np)

/-! ### number_at -/
theorem dig_range {c : Nat} (h : c ∈ DIG) : 48 ≤ c ∧ c ≤ 57 := by
  have : ∀ c ∈ DIG, 48 ≤ c ∧ c ≤ 57 := by decide
  exact this c h
theorem val_lt : ∀ (ds : List Nat) (acc : Nat), (∀ c ∈ ds, c ∈ DIG) → ds.foldl (fun acc c => acc * 10 + (c - 48)) acc < (acc + 1) * 10 ^ ds.length
  | [], acc, _ => by simp
  | c :: r, acc, h => by
    have hc := dig_range (h c List.mem_cons_self)
    have ih := val_lt r (acc * 10 + (c - 48)) (fun d hd => h d (List.mem_cons_of_mem _ hd))
    rw [List.foldl_cons, List.length_cons, Nat.pow_succ]
    refine Nat.lt_of_lt_of_le ih ?_
    rw [Nat.mul_comm (10 ^ r.length) 10, ← Nat.mul_assoc]
    exact Nat.mul_le_mul_right _ (by omega)
theorem val_small {ds : List Nat} (h : ∀ c ∈ ds, c ∈ DIG) (hl : ds.length ≤ 5) : val ds < 100000 := by
  have q := val_lt ds 0 h
  have e : 10 ^ ds.length ≤ 10 ^ 5 := Nat.pow_le_pow_right (by decide) hl
  unfold val
  omega
theorem log_small {n : Nat} (h : n < 100000) : ((n : Nat) : Int).natAbs.log2 < 1920 := by
  rw [Int.natAbs_natCast]
  by_cases h0 : n = 0
  · rw [h0]
    decide
  · have := (Nat.log2_lt (k := 1920) h0).mpr (Nat.lt_of_lt_of_le h (by
      have : 100000 ≤ 2 ^ 17 := by decide
      exact Nat.le_trans this (Nat.pow_le_pow_right (by decide) (by decide))))
    exact this
theorem scNum : FnScope ["line", "at", "end", "digits"] ["line", "at"] (defScope sNumberAt) := ⟨rfl, rfl, rfl, by decide +kernel, rfl, by decide +kernel, by decide +kernel⟩
theorem ok_num {f fe PT : Addr} {fd fde : FuncData} (F : Fun K "number_at" "number_at" sNumberAt f fd) (T : Txt K mg) (FE : FnOk P w K mg base CX0 1 fe fde ["line", "at", "characters"] spEnd)
    (me : mg "end_of_run" = some (.ref fe)) (ke : PySem.W.keepIn K (.ref fe) = true) (be : Binds K fde ["line", "at", "characters"] []) : FnOk P w K mg base CX0 2 f fd ["line", "at"] (spTok PT (· ∈ DIG)) := by
  have sc := scNum
  obtain ⟨tl, gl⟩ := T.DIGITS
  obtain ⟨tn, gn⟩ := T.NUMBER_MOST
  refine F.ok sc (fun vs H Q E h => ?_) (fun cdv A outer s H vs Q E hr h => ?_)
  · obtain ⟨L, a, c, rfl, _⟩ := h
    rfl
  · obtain ⟨L, a, c, rfl, hx, hc, hl, tb, q⟩ := h
    have lt := lt_at hx
    refine ⟨_, (pss_cons (ps_set (i := 2) sc.nd rfl (.inl rfl) (pe_call FE hr (by rfl) me ke be .nil pass0 (pa_cons (pv 0) (pa_cons (pv 1) (pa_cons (pe_gstr rfl gl) pa_nil)))))
(pss_cons (ps_set (i := 3) sc.nd rfl (.inl rfl) (pe_slice sl_str (pv 0) (po_some (pv 1)) (po_some (pv 2))))
(pss_cons (ps_if (PW.pt (pw_or (pt_cmpR op_gt (pe_callB call_len_str (by rfl) T.len (by decide +kernel) (pa_cons (pv 3) pa_nil)) (pe_callB call_len_str (by rfl) T.len (by decide +kernel) (pa_cons (pe_callTy call_str_int (by rfl) T.bstr (by decide +kernel) (pa_cons (pe_gint rfl gn) pa_nil)) pa_nil)) (nomark _)) (pw_or1 (pt_cmpR op_ne (pv 3) (pe_callTy call_str_int (by rfl) T.bstr (by decide +kernel) (pa_cons (pe_callTy call_int_str (by rfl) T.bint (by decide +kernel) (pa_cons (pv 3) pa_nil)) pa_nil)) (nomark _)))))
(pss_one (ps_ret (pe_tup (pa_cons pe_non (pa_cons (pv 2) pa_nil))))) pss_nil)
(pss_one (ps_ret (pe_tup (pa_cons (pe_tup (pa_cons pe_str (pa_cons (pe_callTy call_int_str (by rfl) T.bint (by decide +kernel) (pa_cons (pv 3) pa_nil)) pa_nil))) (pa_cons (pv 2) pa_nil)))))))), ?_⟩
    refine ⟨_, rfl, _, rfl, L, DIG, a, by rw [digS]; rfl, Nat.le_of_lt lt, hl, ?_⟩
    have er : endRun DIG L a = a + run DIG (L.drop a) := rfl
    have ed := drop_at hx
    have nl : c ∉ LET := let_dig hc
    obtain ⟨ds, eds⟩ : ∃ ds, ds = (L.drop a).take (run DIG (L.drop a)) := ⟨_, rfl⟩
    have dlen : ds.length = run DIG (L.drop a) := by rw [eds, List.length_take, Nat.min_eq_left (run_le _ _)]
    have dall : ∀ d ∈ ds, d ∈ DIG := fun d hd => by rw [eds] at hd; exact mem_run hd
    have dne : ds ≠ [] := fun z => by
      have h1 : 1 ≤ run DIG (L.drop a) := by rw [ed]; exact run_pos hc
      rw [z] at dlen
      simp at dlen
      omega
    have elex : lexC c (L.drop (a + 1)) = (if run DIG (L.drop a) ≤ 5 ∧ ds = numT (val ds) then some (.num (val ds), run DIG (L.drop a)) else none) := by
      unfold lexC
      rw [if_neg nl, if_pos hc, ← ed, ← eds]
    refine ⟨_, rfl, _, rfl, _, rfl, _, rfl, _, rfl, _, rfl, by rw [S_len]; exact smallL hl, ?_⟩
    rw [cut_run (Nat.le_of_lt lt), ← eds]
    have dsz : ds.length ≤ 5000 := by
      have := run_le DIG (L.drop a)
      rw [List.length_drop] at this
      omega
    refine ⟨_, rfl, _, rfl, by rw [S_len]; exact smallL dsz, _, rfl, by decide, _, rfl, by decide, _, _, rfl, rfl, _, rfl, ?_⟩
    have rdI : ds.length ≤ 5 → PySem.intText? (S ds) = some ((val ds : Nat) : Int) ∧ (S ds).length ≤ 640 := fun h => by
      refine ⟨PySem.intText_digits (x := S ds) (fun d hd => dig_range (dall d hd)) dne (by rw [S_len]; omega), by rw [S_len]; omega⟩
    have bad : ∀ e : Int, lexC c (L.drop (a + 1)) = none → ∀ p, H p = none → Q (.ref p) (upd H p (.tup [.non, .int e])) := fun e z p np => by
      rw [z] at q
      exact q _ p (tok_none tb np)
    refine ite2 (fun h => ?_) (fun h => ?_)
    · have h1 : ¬ run DIG (L.drop a) ≤ 5 := by
        have h := of_decide_eq_true h
        rw [S_len, dlen] at h
        have e5 : ((toString (99999 : Int) : Str)).length = 5 := by decide
        rw [e5] at h
        omega
      refine iteT ⟨_, rfl, two_le, fun p np => bad _ ?_ p np⟩
      rw [elex, if_neg (fun z => h1 z.1)]
    · have h1 : ds.length ≤ 5 := by
        have e5 : ((toString (99999 : Int) : Str)).length = 5 := by decide
        have : ¬ (((toString (99999 : Int) : Str)).length : Int) < (S ds).length := fun z => h (decide_eq_true z)
        rw [S_len, e5] at this
        omega
      obtain ⟨r1, r2⟩ := rdI h1
      refine ⟨_, rfl, _, rfl, _, _, rfl, r1, r2, _, rfl, log_small (val_small dall h1), rfl, _, rfl, ?_⟩
      have cmp : ∀ {A B : Prop}, (ds = numT (val ds) → B) → (ds ≠ numT (val ds) → A) → if (!decide (V.str (S ds) = V.str (toString ((val ds : Nat) : Int) : Str))) = true then A else B := fun hB hA => by
        by_cases z : ds = numT (val ds)
        · have e : V.str (S ds) = V.str (toString ((val ds : Nat) : Int) : Str) := by
            have : S ds = (Str.ofString (toString ((val ds : Nat) : Int))) := by
              rw [← S_of (Str.ofString (toString ((val ds : Nat) : Int)))]
              exact congrArg S z
            rw [this]
          rw [decide_eq_true e]
          exact iteF (hB z)
        · have e : V.str (S ds) ≠ V.str (toString ((val ds : Nat) : Int) : Str) := fun y => z (by
            injection y with y
            exact congrArg (fun z : Str => z.cps.toList) y)
          rw [decide_eq_false e]
          exact iteT (hA z)
      refine cmp (fun z => ?_) (fun z => ?_)
      · rw [if_pos ⟨by omega, z⟩] at elex
        rw [elex] at q
        refine ⟨_, rfl, _, _, rfl, r1, r2, two_le, fun u nu => ⟨_, rfl, two_le, fun p np => ?_⟩⟩
        rw [er]
        exact q _ p (tok_some tb nu np)
      · refine ⟨_, rfl, two_le, fun p np => bad _ ?_ p np⟩
        rw [elex, if_neg (fun y => z y.2)]
end
end K1

set_option maxRecDepth 100000
set_option maxHeartbeats 4000000
namespace K1
open PySem PySem.Spec PyProof.Rows L2 GD
section
variable {P : Program} {w : World} {K : PySem.W.Frag} {mg : Str → Option Value} {base : Heap}

/-- what the generator expressions' scopes say -/
def genScope (e : Expr) : Scope := match e with
  | .Call _ [.GeneratorExp _ _ sc _] _ _ => sc
  | _ => { kind := .function, names := [], isGenerator := false, isCoroutine := false }
def retE (s : Stmt) : Expr := match s with
  | .Return (some e) _ => e
  | _ => .Constant .none 0 ⟨0, 0, 0, 0⟩
def gsVal : Scope := genScope (retE ((defBody sIsValue).getD 3 (.Pass ⟨0, 0, 0, 0⟩)))
def gsNam : Scope := genScope (retE ((defBody sIsName).getD 1 (.Pass ⟨0, 0, 0, 0⟩)))
theorem gsVal_cell : ∀ y ∈ gsVal.names, y.2 ≠ .cell := by decide +kernel
theorem gsVal_free : ∀ y ∈ gsVal.names, y.2 ≠ .free := by decide +kernel
theorem gsNam_cell : ∀ y ∈ gsNam.names, y.2 ≠ .cell := by decide +kernel
theorem gsNam_free : ∀ y ∈ gsNam.names, y.2 ≠ .free := by decide +kernel

def strV (z : Str) : Bool := decide (z.length ≤ 20) && z.cps.toList.all mayC
def spValue (PV : Addr) : Sp := fun vs H Q _ => (∃ z : Str, vs = [.str z] ∧ z.length ≤ 5000 ∧ GxR.TabG H PV ∧ ∀ H', Kp PV H H' → Q (.bl (strV z)) H') ∨
  ∃ i : Int, vs = [.int i] ∧ Q (.bl (decide (-99999 ≤ i ∧ i ≤ 99999))) H
theorem scVal : FnScope ["value"] ["value"] (defScope sIsValue) := ⟨rfl, rfl, rfl, by decide +kernel, rfl, by decide +kernel, by decide +kernel⟩
theorem ok_value {f cV PV : Addr} {oc : Value} {od an : Option Addr} {osl : Array (Option Value)} {kV doc pm cdv ct : Value}
    (lk : K.lookup f = some ⟨oc, od, .func (PySem.W.fnOf "is_value" "is_value" (defArgs sIsValue) (defBody sIsValue) (defScope sIsValue) .none kV doc pm an cdv ct), osl⟩)
    (hcd : PySem.W.codeIn K cdv "is_value" = true) (ecd : cdv = .ref cV) (TB : GxR.TabB base mg cV PV) (T : Txt K mg) :
    FnOk P w K mg base CX0 2 f (PySem.W.fnOf "is_value" "is_value" (defArgs sIsValue) (defBody sIsValue) (defScope sIsValue) .none kV doc pm an cdv ct) ["value"] (spValue PV) := by
  have sc := scVal
  obtain ⟨t1, g1⟩ := T.CHARACTERS
  obtain ⟨t4, g4⟩ := T.NUMBER_MOST
  obtain ⟨t5, g5⟩ := T.STRING_MOST
  refine okC lk hcd sc (fun vs H Q E h => ?_) (fun A outer s H vs Q E hr h => ?_)
  · rcases h with ⟨z, rfl, _⟩ | ⟨i, rfl, _⟩ <;> rfl
  · have hdep : (A.deeper (envOfC "is_value" (defScope sIsValue) s.heap.objs.size f cdv)).depth + 1 < recursionLimit := by
      have := hr.dp
      omega
    refine ⟨_, (pss_cons (ps_if (pt_val (pe_callB call_isi (by rfl) T.isinstance (by decide +kernel) (pa_cons (pv 0) (pa_cons (pe_bltn (v := .ty "bool") (by rfl) T.bbool (by decide +kernel) rfl) pa_nil))))
(pss_one (ps_ret pe_bl)) pss_nil)
(pss_cons (ps_if (pt_val (pe_callB call_isi (by rfl) T.isinstance (by decide +kernel) (pa_cons (pv 0) (pa_cons (pe_bltn (v := .ty "int") (by rfl) T.bint (by decide +kernel) rfl) pa_nil))))
(pss_one (ps_ret (pe_chain op_le op_le (pe_un un_neg (pe_gint rfl g4)) (pv 0) (pe_gint rfl g4)))) pss_nil)
(pss_cons (ps_if (PW.pt (pw_or (pt_not (pt_val (pe_callB call_isi (by rfl) T.isinstance (by decide +kernel) (pa_cons (pv 0) (pa_cons (pe_bltn (v := .ty "str") (by rfl) T.bstr (by decide +kernel) rfl) pa_nil))))) (pw_or1 (pt_cmpR op_gt (pe_callB call_len_str (by rfl) T.len (by decide +kernel) (pa_cons (pv 0) pa_nil)) (pe_gint rfl g5) (nomark _)))))
(pss_one (ps_ret pe_bl)) pss_nil)
(pss_one (ps_ret (pe_allD (scope := gsVal) hr rfl T.all TB (by rw [← ecd]; rfl) ⟨rfl, rfl, gsVal_cell, rfl, rfl, fun y hy e => absurd e (gsVal_free y hy)⟩ (pv 0)
  (fun hB => elt_val (X := (cxOf CX0 P w K mg base _ _ _ f cdv A outer s H E).nox) rfl hB rfl rfl rfl g1) (fun _ => rfl))))))), ?_⟩
    rcases h with ⟨z, rfl, hz, tb, q⟩ | ⟨i, rfl, q⟩
    · refine ⟨_, rfl, _, _, _, _, false, rfl, .ty _, .base (.str _), kit_ty (by decide +kernel), _, rfl, iteF ?_⟩
      refine ⟨_, rfl, _, _, _, _, false, rfl, .ty _, .base (.str _), kit_ty (by decide +kernel), _, rfl, iteF ?_⟩
      refine ⟨_, rfl, _, _, _, _, true, rfl, .ty _, .base (.str _), kit_ty (by decide +kernel), _, rfl, iteF ?_⟩
      refine ⟨_, rfl, _, rfl, smallL hz, _, _, rfl, rfl, _, rfl, ite2 (fun h => ?_) (fun h => ?_)⟩
      · have h := of_decide_eq_true h
        have e : strV z = false := by
          unfold strV
          rw [decide_eq_false (by omega), Bool.false_and]
        have := q H (Kp.refl tb)
        rw [e] at this
        exact this
      · have h : ¬ ((20 : Int) < z.length) := fun y => h (decide_eq_true y)
        have e : strV z = z.cps.toList.all mayC := by
          unfold strV
          rw [decide_eq_true (by omega), Bool.true_and]
        refine ⟨_, rfl, z, rfl, tb, fun H2 t => ?_⟩
        have := q H2 (Kp.of t)
        rw [e] at this
        exact this
    · refine ⟨_, rfl, _, _, _, _, false, rfl, .ty _, .base (.int _), kit_ty (by decide +kernel), _, rfl, iteF ?_⟩
      refine ⟨_, rfl, _, _, _, _, true, rfl, .ty _, .base (.int _), kit_ty (by decide +kernel), _, rfl, iteT ?_⟩
      refine ⟨_, rfl, _, rfl, _, _, rfl, rfl, _, rfl, ?_⟩
      refine ite2 (fun h => ?_) (fun h => ?_)
      · have h : (-99999 : Int) ≤ i := of_decide_eq_true h
        refine ⟨_, _, rfl, rfl, ?_⟩
        have e : decide (-99999 ≤ i ∧ i ≤ 99999) = decide (i ≤ 99999) := by
          by_cases h2 : i ≤ 99999
          · rw [decide_eq_true h2, decide_eq_true ⟨h, h2⟩]
          · rw [decide_eq_false h2, decide_eq_false fun z => h2 z.2]
        rw [e] at q
        exact q
      · have h : ¬ (-99999 : Int) ≤ i := fun z => h (decide_eq_true z)
        have e : decide (-99999 ≤ i ∧ i ≤ 99999) = false := decide_eq_false fun z => h z.1
        rw [e] at q
        exact q

/-! ### is_name -/
def nameB (z : Str) : Bool := decide (1 ≤ z.length ∧ z.length ≤ 6) && !(inV (.str z) (kw13.map V.str)) && z.cps.toList.all fun c => decide (c ∈ LET)
def spName (PN : Addr) : Sp := fun vs H Q _ => ∃ z : Str, vs = [.str z] ∧ z.length ≤ 5000 ∧ GxR.TabG H PN ∧ ∀ H', Kp PN H H' → Q (.bl (nameB z)) H'
theorem scNam : FnScope ["text"] ["text"] (defScope sIsName) := ⟨rfl, rfl, rfl, by decide +kernel, rfl, by decide +kernel, by decide +kernel⟩
theorem ok_name {f cN PN : Addr} {oc : Value} {od an : Option Addr} {osl : Array (Option Value)} {kV doc pm cdv ct : Value}
    (lk : K.lookup f = some ⟨oc, od, .func (PySem.W.fnOf "is_name" "is_name" (defArgs sIsName) (defBody sIsName) (defScope sIsName) .none kV doc pm an cdv ct), osl⟩)
    (hcd : PySem.W.codeIn K cdv "is_name" = true) (ecd : cdv = .ref cN) (TB : GxR.TabB base mg cN PN) (T : Txt K mg) :
    FnOk P w K mg base CX0 1 f (PySem.W.fnOf "is_name" "is_name" (defArgs sIsName) (defBody sIsName) (defScope sIsName) .none kV doc pm an cdv ct) ["text"] (spName PN) := by
  have sc := scNam
  obtain ⟨t1, g1⟩ := T.LETTERS
  obtain ⟨t4, g4⟩ := T.NAME_MOST
  obtain ⟨ra, gr, hres⟩ := T.RESERVED
  refine okC lk hcd sc (fun vs H Q E h => ?_) (fun A outer s H vs Q E hr h => ?_)
  · obtain ⟨z, rfl, _⟩ := h
    rfl
  · obtain ⟨z, rfl, hz, tb, q⟩ := h
    refine ⟨_, (pss_cons (ps_if (PW.pt (pw_or (pt_not (pt_chain op_le op_le pe_int (pe_callB call_len_str (by rfl) T.len (by decide +kernel) (pa_cons (pv 0) pa_nil)) (pe_gint rfl g4))) (pw_or1 (pt_cmpR op_in_seq (pv 0) (pe_glob (v := .ref ra) rfl gr rfl) rfl))))
(pss_one (ps_ret pe_bl)) pss_nil)
(pss_one (ps_ret (pe_allD (scope := gsNam) hr rfl T.all TB (by rw [← ecd]; rfl) ⟨rfl, rfl, gsNam_cell, rfl, rfl, fun y hy e => absurd e (gsNam_free y hy)⟩ (pv 0)
  (fun hB => elt_inSigns (X := (cxOf CX0 P w K mg base _ _ _ f cdv A outer s H E).nox) rfl hB rfl rfl rfl g1) (fun _ => rfl))))), ?_⟩
    have bad : nameB z = false → Q (.bl false) H := fun e => by
      have := q H (Kp.refl tb)
      rw [e] at this
      exact this
    have flatR : (kw13.map V.str).all flatV = true := rfl
    refine ⟨_, rfl, _, rfl, smallL hz, _, _, rfl, rfl, _, rfl, ?_⟩
    refine ite2 (fun h => ?_) (fun h => ?_)
    · have h : (1 : Int) ≤ z.length := of_decide_eq_true h
      refine ⟨_, _, rfl, rfl, _, rfl, ?_⟩
      by_cases h2 : ((z.length : Nat) : Int) ≤ 6
      · refine iteNS h2 ?_
        refine ⟨_, rfl, ra, _, rfl, .inr (hres _), rfl, flatR, _, rfl, ite2 (fun h3 => ?_) (fun h3 => ?_)⟩
        · refine bad ?_
          unfold nameB
          have h3 : inV (.str z) (kw13.map V.str) = true := h3
          rw [h3]
          simp
        · have h3 : inV (.str z) (kw13.map V.str) = false := by
            cases e : inV (.str z) (kw13.map V.str) with
            | false => rfl
            | true => exact absurd e h3
          have e : nameB z = z.cps.toList.all fun c => decide (c ∈ LET) := by
            unfold nameB
            rw [h3, decide_eq_true ⟨by omega, by omega⟩]
            rfl
          refine ⟨_, rfl, z, rfl, tb, fun H2 t => ?_⟩
          have := q H2 (Kp.of t)
          rw [e] at this
          exact this
      · show if (!decide (((z.length : Nat) : Int) ≤ 6)) = true then _ else _
        rw [decide_eq_false h2]
        refine iteT (bad ?_)
        unfold nameB
        rw [decide_eq_false (fun z => h2 (by omega))]
        rfl
    · have h : ¬ (1 : Int) ≤ z.length := fun z => h (decide_eq_true z)
      refine ⟨_, rfl, iteT (bad ?_)⟩
      unfold nameB
      rw [decide_eq_false (fun z => h (by omega))]
      rfl
end
end K1

set_option maxRecDepth 100000
set_option maxHeartbeats 4000000
namespace K1
open PySem PySem.Spec PyProof.Rows L2 GD
section
variable {P : Program} {w : World} {K : PySem.W.Frag} {mg : Str → Option Value} {base : Heap}

theorem may_eq : mayC = mayB := rfl
theorem toQ_none {r : List Nat} (h : 34 ∉ r) : toQ r = r.length := by
  unfold toQ
  have e := List.takeWhile_append_of_pos (p := fun d => d != 34) (l₁ := r) (l₂ := []) (fun c hc => bne_iff_ne.mpr fun z => h (z ▸ hc))
  rw [List.append_nil] at e
  rw [e]
  simp
theorem toQ_some {r : List Nat} {k : Nat} (h : r[k]? = some 34) (n : 34 ∉ r.take k) : toQ r = k := by
  have lt : k < r.length := (List.getElem?_eq_some_iff.mp h).1
  have e : r = r.take k ++ (34 :: r.drop (k + 1)) := by
    rw [← drop_at h, List.take_append_drop]
  unfold toQ
  have e2 := List.takeWhile_append_of_pos (p := fun d => d != 34) (l₁ := r.take k) (l₂ := 34 :: r.drop (k + 1)) (fun c hc => bne_iff_ne.mpr fun z => n (z ▸ hc))
  rw [← e] at e2
  rw [e2, List.takeWhile_cons, if_neg (by decide), List.append_nil, List.length_take]
  omega
theorem q34c : ("\"" : Str) = (⟨#[34]⟩ : Str) := rfl
theorem scStr : FnScope ["line", "at", "end"] ["line", "at"] (defScope sStringAt) := ⟨rfl, rfl, rfl, by decide +kernel, rfl, by decide +kernel, by decide +kernel⟩
theorem ok_str {f fv PT : Addr} {fd fdv : FuncData} (F : Fun K "string_at" "string_at" sStringAt f fd) (T : Txt K mg) (FV : FnOk P w K mg base CX0 2 fv fdv ["value"] (spValue PT))
    (mv : mg "is_value" = some (.ref fv)) (kv : PySem.W.keepIn K (.ref fv) = true) (bv : Binds K fdv ["value"] []) : FnOk P w K mg base CX0 3 f fd ["line", "at"] (spTok PT (· = 34)) := by
  have sc := scStr
  refine F.ok sc (fun vs H Q E h => ?_) (fun cdv A outer s H vs Q E hr h => ?_)
  · obtain ⟨L, a, c, rfl, _⟩ := h
    rfl
  · obtain ⟨L, a, c, rfl, hx, rfl, hl, tb, q⟩ := h
    have lt := lt_at hx
    refine ⟨_, (pss_cons (ps_set (i := 2) sc.nd rfl (.inl rfl) (pe_bm PySem.F.plainAttrs_str PySem.F.slot_str_find PySem.F.type_str_find mt_find3 (pv 0) (pa_cons pe_str (pa_cons (pe_op op_add (pv 1) pe_int) pa_nil))))
(pss_cons (ps_if (PW.pt (pw_or (pt_cmpR op_lt (pv 2) pe_int (nomark _)) (pw_or1 (pt_not (pt_val (pe_call FV hr (by rfl) mv kv bv .nil pass0 (pa_cons (pe_slice sl_str (pv 0) (po_some (pe_op op_add (pv 1) pe_int)) (po_some (pv 2))) pa_nil)))))))
(pss_one (ps_ret (pe_tup (pa_cons pe_non (pa_cons (pv 2) pa_nil))))) pss_nil)
(pss_one (ps_ret (pe_tup (pa_cons (pe_tup (pa_cons pe_str (pa_cons (pe_slice sl_str (pv 0) (po_some (pe_op op_add (pv 1) pe_int)) (po_some (pv 2))) pa_nil))) (pa_cons (pe_op op_add (pv 2) pe_int) pa_nil))))))), ?_⟩
    obtain ⟨r, er⟩ : ∃ r, r = L.drop (a + 1) := ⟨_, rfl⟩
    have elex : lexC 34 r = (if toQ r < r.length ∧ toQ r ≤ 20 ∧ (r.take (toQ r)).all mayB = true then some (.str (r.take (toQ r)), toQ r + 2) else none) := by
      unfold lexC
      rw [if_neg (by decide), if_neg (by decide), if_pos rfl]
    rw [← er] at q
    have e1 : (((a : Nat) : Int) + 1) = ((a + 1 : Nat) : Int) := rfl
    have bad : ∀ (H1 : Hp) (e : Int), Kp PT H H1 → lexC 34 r = none → ∀ p, H1 p = none → Q (.ref p) (upd H1 p (.tup [.non, .int e])) := fun H1 e k z p np => by
      rw [z] at q
      exact q _ p (tok_kp k tb (tok_none k.1 np))
    refine ⟨_, rfl, rfl, _, rfl, _, _, rfl, rfl, S L, ⟨#[34]⟩, ((a + 1 : Nat) : Int), rfl, rfl, ?_⟩
    rcases find_one (S L) 34 (a + 1) (by rw [S_len]; omega) with ⟨f1, f2⟩ | ⟨k, f1, f2, f3⟩
    · rw [S_toList, ← er] at f2
      rw [f1]
      refine ⟨_, rfl, _, _, rfl, rfl, _, rfl, ?_⟩
      refine iteT ⟨_, rfl, two_le, fun p np => bad H _ (Kp.refl tb) ?_ p np⟩
      rw [elex, toQ_none f2, if_neg (fun z => absurd z.1 (Nat.lt_irrefl _))]
    · rw [S_toList, ← er] at f2 f3
      rw [f1]
      have eq := toQ_some f2 f3
      have kl : k < r.length := (List.getElem?_eq_some_iff.mp f2).1
      have rl : r.length = L.length - (a + 1) := by rw [er, List.length_drop]
      have ecut : cutS (S L) (some (((a : Nat) : Int) + 1)) (some ((a + 1 + k : Nat) : Int)) = S (r.take k) := by
        rw [e1, cut_S L (a + 1) (a + 1 + k) (by omega) (by omega), ← er, Nat.add_sub_cancel_left]
      refine ⟨_, rfl, _, _, rfl, rfl, _, rfl, ?_⟩
      have n0 : ¬ (((a + 1 + k : Nat) : Int) < 0) := by omega
      show if decide (((a + 1 + k : Nat) : Int) < 0) = true then _ else _
      rw [decide_eq_false n0]
      refine iteF ⟨_, rfl, _, rfl, _, _, rfl, rfl, _, rfl, _, rfl, _, rfl, S L, rfl, by rw [S_len]; exact smallL hl, ?_⟩
      rw [ecut]
      have tl : (r.take k).length = k := by rw [List.length_take]; omega
      refine .inl ⟨S (r.take k), rfl, by rw [S_len]; omega, tb, fun H1 k1 => ?_⟩
      have ev : strV (S (r.take k)) = (decide (k ≤ 20) && (r.take k).all mayB) := by
        unfold strV
        rw [S_len, tl]
        rfl
      refine ⟨_, rfl, ?_⟩
      rw [ev]
      rw [eq] at elex
      cases hb : (decide (k ≤ 20) && (r.take k).all mayB) with
      | false =>
        refine iteT ⟨_, rfl, two_le, fun p np => bad H1 _ k1 ?_ p np⟩
        rw [elex, if_neg (fun z => ?_)]
        rw [decide_eq_true z.2.1, z.2.2] at hb
        cases hb
      | true =>
        rw [Bool.and_eq_true] at hb
        have hk := of_decide_eq_true hb.1
        rw [if_pos ⟨kl, hk, hb.2⟩] at elex
        rw [elex] at q
        refine iteF ⟨_, rfl, _, rfl, _, _, rfl, rfl, _, rfl, _, rfl, _, rfl, S L, rfl, by rw [S_len]; exact smallL hl, ?_⟩
        rw [ecut]
        refine ⟨two_le, fun u nu => ⟨_, rfl, _, _, rfl, rfl, two_le, fun p np => ?_⟩⟩
        have en : (((a + 1 + k : Nat) : Int) + 1) = ((a + (k + 2) : Nat) : Int) := by omega
        show Q (.ref p) (upd _ p (.tup [.ref u, .int (((a + 1 + k : Nat) : Int) + 1)]))
        rw [en]
        exact q _ p (tok_kp k1 tb (tok_some k1.1 nu np))
end
end K1

set_option maxRecDepth 100000
set_option maxHeartbeats 4000000
namespace K1
open PySem PySem.Spec PyProof.Rows L2 GD
section
variable {P : Program} {w : World} {K : PySem.W.Frag} {mg : Str → Option Value} {base : Heap}

/-! ### token_at -/
theorem scTokA : FnScope ["line", "at", "first"] ["line", "at"] (defScope sTokenAt) := ⟨rfl, rfl, rfl, by decide +kernel, rfl, by decide +kernel, by decide +kernel⟩
theorem ok_tokat {f f1 f2 f3 PT : Addr} {fd fd1 fd2 fd3 : FuncData} (F : Fun K "token_at" "token_at" sTokenAt f fd) (T : Txt K mg)
    (F1 : FnOk P w K mg base CX0 3 f1 fd1 ["line", "at"] (spTok PT (· ∈ LET))) (m1 : mg "word_at" = some (.ref f1)) (k1 : PySem.W.keepIn K (.ref f1) = true) (b1 : Binds K fd1 ["line", "at"] [])
    (F2 : FnOk P w K mg base CX0 3 f2 fd2 ["line", "at"] (spTok PT (· ∈ DIG))) (m2 : mg "number_at" = some (.ref f2)) (k2 : PySem.W.keepIn K (.ref f2) = true) (b2 : Binds K fd2 ["line", "at"] [])
    (F3 : FnOk P w K mg base CX0 3 f3 fd3 ["line", "at"] (spTok PT (· = 34))) (m3 : mg "string_at" = some (.ref f3)) (k3 : PySem.W.keepIn K (.ref f3) = true) (b3 : Binds K fd3 ["line", "at"] []) :
    FnOk P w K mg base CX0 4 f fd ["line", "at"] (spTok PT fun _ => True) := by
  have sc := scTokA
  obtain ⟨t1, g1⟩ := T.LETTERS
  obtain ⟨t2, g2⟩ := T.DIGITS
  obtain ⟨t3, g3⟩ := T.SIGNS
  refine F.ok sc (fun vs H Q E h => ?_) (fun cdv A outer s H vs Q E hr h => ?_)
  · obtain ⟨L, a, c, rfl, _⟩ := h
    rfl
  · obtain ⟨L, a, c, rfl, hx, _, hl, tb, q⟩ := h
    have lt := lt_at hx
    refine ⟨_, (pss_cons (ps_set (i := 2) sc.nd rfl (.inl rfl) (pe_item_str (pv 0) (pv 1) (fun _ _ => rfl)))
(pss_cons (ps_if (pt_cmpR op_in_sign (pv 2) (pe_gstr rfl g1) rfl)
(pss_one (ps_ret (pe_call F1 hr (by rfl) m1 k1 b1 .nil pass0 (pa_cons (pv 0) (pa_cons (pv 1) pa_nil))))) pss_nil)
(pss_cons (ps_if (pt_cmpR op_in_sign (pv 2) (pe_gstr rfl g2) rfl)
(pss_one (ps_ret (pe_call F2 hr (by rfl) m2 k2 b2 .nil pass0 (pa_cons (pv 0) (pa_cons (pv 1) pa_nil))))) pss_nil)
(pss_cons (ps_if (pt_cmpR op_eq (pv 2) pe_str (nomark _))
(pss_one (ps_ret (pe_call F3 hr (by rfl) m3 k3 b3 .nil pass0 (pa_cons (pv 0) (pa_cons (pv 1) pa_nil))))) pss_nil)
(pss_cons (ps_if (pt_cmpR op_in_sign (pv 2) (pe_gstr rfl g3) rfl)
(pss_one (ps_ret (pe_tup (pa_cons (pe_tup (pa_cons pe_str (pa_cons (pv 2) pa_nil))) (pa_cons (pe_op op_add (pv 1) pe_int) pa_nil))))) pss_nil)
(pss_one (ps_ret (pe_tup (pa_cons pe_non (pa_cons (pv 1) pa_nil)))))))))), ?_⟩
    refine ⟨_, rfl, _, rfl, _, _, c, rfl, rfl, by omega, in63 hl lt, in_S lt, item_S hx, ?_⟩
    refine ⟨_, rfl, c, _, rfl, rfl, _, rfl, ite2 (fun h => ?_) (fun h => ?_)⟩
    · exact ⟨_, rfl, _, rfl, L, a, c, rfl, hx, of_decide_eq_true h, hl, tb, q⟩
    have n1 : c ∉ LET := fun z => h (decide_eq_true z)
    refine ⟨_, rfl, c, _, rfl, rfl, _, rfl, ite2 (fun h => ?_) (fun h => ?_)⟩
    · exact ⟨_, rfl, _, rfl, L, a, c, rfl, hx, of_decide_eq_true h, hl, tb, q⟩
    have n2 : c ∉ DIG := fun z => h (decide_eq_true z)
    refine ⟨_, rfl, rfl, _, rfl, ite2 (fun h => ?_) (fun h => ?_)⟩
    · have e : c = 34 := by
        have h := of_decide_eq_true h
        injection h with h
        have h2 : [c] = [34] := congrArg (fun z : Str => z.cps.toList) h
        exact (List.cons.inj h2).1
      exact ⟨_, rfl, _, rfl, L, a, c, rfl, hx, e, hl, tb, q⟩
    have n3 : c ≠ 34 := fun z => h (decide_eq_true (by rw [z]; rfl))
    have elex : lexC c (L.drop (a + 1)) = (if c ∈ SGN then some (.sign c, 1) else none) := by
      unfold lexC
      rw [if_neg n1, if_neg n2, if_neg n3]
    refine ⟨_, rfl, c, _, rfl, rfl, _, rfl, ite2 (fun h => ?_) (fun h => ?_)⟩
    · have hs : c ∈ SGN := of_decide_eq_true h
      rw [if_pos hs] at elex
      rw [elex] at q
      exact ⟨_, rfl, two_le, fun u nu => ⟨_, rfl, _, _, rfl, rfl, two_le, fun p np => q _ p (tok_some (t := .sign c) (k := 1) tb nu np)⟩⟩
    · have hs : c ∉ SGN := fun z => h (decide_eq_true z)
      rw [if_neg hs] at elex
      rw [elex] at q
      exact ⟨_, rfl, two_le, fun p np => q _ p (tok_none tb np)⟩

theorem lexC_le {c : Nat} {r : List Nat} {t : Tok} {k : Nat} (h : lexC c r = some (t, k)) : k ≤ r.length + 1 := by
  unfold lexC at h
  by_cases h1 : c ∈ LET
  · rw [if_pos h1] at h
    split at h
    · cases h
      exact run_le _ _
    · cases h
  rw [if_neg h1] at h
  by_cases h2 : c ∈ DIG
  · rw [if_pos h2] at h
    split at h
    · cases h
      exact run_le _ _
    · cases h
  rw [if_neg h2] at h
  by_cases h3 : c = 34
  · rw [if_pos h3] at h
    split at h
    · rename_i hk
      cases h
      omega
    · cases h
  rw [if_neg h3] at h
  split at h
  · cases h
    omega
  · cases h
/-! ### split -/
def TokL (H : Hp) : List V → List Tok → Prop := Paired fun v t => ∃ q, v = .ref q ∧ H q = some (.tup (tokV t))
theorem TokL.imp {H H' : Hp} {vs : List V} {ts : List Tok} (h : TokL H vs ts) (k : ∀ q t, H q = some (.tup (tokV t)) → H' q = some (.tup (tokV t))) : TokL H' vs ts :=
  Paired.mapP h fun v t ⟨q, e, h⟩ => ⟨q, e, k q t h⟩
theorem tup_ne_tab {P q : Addr} {H : Hp} {xs : List V} (t : GxR.TabG H P) (h : H q = some (.tup xs)) : q ≠ P := fun e => by
  obtain ⟨ps, h2, _⟩ := t
  rw [e, h2] at h
  cases h
theorem TokL.kp {P : Addr} {H H' : Hp} {vs : List V} {ts : List Tok} (h : TokL H vs ts) (t : GxR.TabG H P) (k : Kp P H H') : TokL H' vs ts :=
  h.imp fun q u e => k.2 q _ (tup_ne_tab t e) e
theorem Paired.snoc {α β : Type} {R : α → β → Prop} : ∀ {l : List α} {m : List β} {a : α} {b : β}, Paired R l m → R a b → Paired R (l ++ [a]) (m ++ [b])
  | _, _, _, _, .nil, r => .cons r .nil
  | _, _, _, _, .cons x t, r => .cons x (Paired.snoc t r)
def spSplit (PT : Addr) : Sp := fun vs H Q _ => ∃ (L : List Nat) (o : Option (List Tok)), vs = [.str (S L)] ∧ L.length ≤ 5000 ∧ GxR.TabG H PT ∧ Lex L o ∧
  ∀ H', Kp PT H H' → (o = none → Q .non H') ∧ ∀ ts D vs, o = some ts → H D = none → H' D = some (.lst vs) → TokL H' vs ts → Q (.ref D) H'
theorem scSpl : FnScope ["line", "tokens", "at", "token"] ["line"] (defScope sSplit) := ⟨rfl, rfl, rfl, by decide +kernel, rfl, by decide +kernel, by decide +kernel⟩
theorem ok_split {f f1 PT : Addr} {fd fd1 : FuncData} (F : Fun K "split" "split" sSplit f fd) (T : Txt K mg)
    (F1 : FnOk P w K mg base CX0 4 f1 fd1 ["line", "at"] (spTok PT fun _ => True)) (m1 : mg "token_at" = some (.ref f1)) (k1 : PySem.W.keepIn K (.ref f1) = true) (b1 : Binds K fd1 ["line", "at"] []) :
    FnOk P w K mg base CX0 5 f fd ["line"] (spSplit PT) := by
  have sc := scSpl
  refine F.ok sc (fun vs H Q E h => ?_) (fun cdv A outer s H vs Q E hr h => ?_)
  · obtain ⟨L, o, rfl, _⟩ := h
    rfl
  · obtain ⟨L, o, rfl, hl, tb, hx, q⟩ := h
    refine ⟨_, (pss_cons (ps_set (i := 1) sc.nd rfl (.inl rfl) (pe_lst pa_nil))
(pss_cons (ps_set (i := 2) sc.nd rfl (.inl rfl) pe_int)
(pss_cons (ps_while PassesOwn.never (pt_cmpR op_lt (pv 2) (pe_callB call_len_str (by rfl) T.len (by decide +kernel) (pa_cons (pv 0) pa_nil)) (nomark _))
(pss_cons (ps_if (pt_cmpR op_eq (pe_item_str (pv 0) (pv 2) (fun _ _ => rfl)) pe_str (nomark _))
(pss_cons (ps_aug (i := 2) sc.nd rfl (.inl rfl) pe_int ip_add)
(pss_one ps_continue)) pss_nil)
(pss_cons (ps_asg (pe_call F1 hr (by rfl) m1 k1 b1 .nil pass0 (pa_cons (pv 0) (pa_cons (pv 2) pa_nil))) (pg_tup rfl (pgs_cons (pg_name (i := 3) sc.nd rfl (.inl rfl)) (pgs_cons (pg_name (i := 2) sc.nd rfl (.inl rfl)) pgs_nil))))
(pss_cons (ps_if (pt_cmpR op_isN (pv 3) pe_non (nomark _))
(pss_one (ps_ret pe_non)) pss_nil)
(pss_one (ps_expr (pe_bm PySem.F.plainAttrs_list PySem.F.slot_list_append PySem.F.type_list_append mt_append (pv 1) (pa_cons (pv 3) pa_nil))))))))
(pss_one (ps_ret (pv 1)))))), ?_⟩
    refine ⟨Nat.zero_le _, fun D hD => ?_⟩
    have kD : Kp PT H (upd H D (.lst [])) := Same.kp (Same.lst (Same.refl H) hD) tb
    have nDP : D ≠ PT := TabG.ne tb hD
    refine ⟨fun m σ H' => ∃ (e : Nat) (ts : List Tok) (vs : List V) (y3 : Option V) (o' : Option (List Tok)), σ = [some (.str (S L)), some (.ref D), some (.int (e : Nat)), y3] ∧ Kp PT H H' ∧ H' D = some (.lst vs) ∧ TokL H' vs ts ∧
        e ≤ L.length ∧ m = L.length - e ∧ Lex (L.drop e) o' ∧ o = o'.map (ts ++ ·) ∧ ts.length ≤ e ∧ vs.length = ts.length, ⟨_, 0, [], [], none, o, rfl, kD, upd_same, .nil, Nat.zero_le _, rfl, hx, by cases o <;> rfl, Nat.le_refl _, rfl⟩, ?_⟩
    rintro m σ H' ⟨e, ts, vs, y3, o', rfl, kp, eD, tl, he, rfl, hx', eo, lts, lvs⟩
    refine ⟨_, rfl, _, rfl, _, rfl, by rw [S_len]; exact smallL hl, _, _, rfl, rfl, _, rfl, ite2 (fun h => ?_) (fun h => ?_)⟩
    · have lt : e < L.length := by
        have := of_decide_eq_true h
        rw [S_len] at this
        omega
      obtain ⟨c, hc⟩ : ∃ c, L[e]? = some c := ⟨_, List.getElem?_eq_getElem lt⟩
      rw [drop_at hc] at hx'
      refine ⟨fun σ' H2 => ∃ (e2 : Nat) (ts : List Tok) (vs : List V) (y3 : Option V) (o' : Option (List Tok)), σ' = [some (.str (S L)), some (.ref D), some (.int (e2 : Nat)), y3] ∧ Kp PT H H2 ∧ H2 D = some (.lst vs) ∧ TokL H2 vs ts ∧
        e < e2 ∧ e2 ≤ L.length ∧ Lex (L.drop e2) o' ∧ o = o'.map (ts ++ ·) ∧ ts.length ≤ e2 ∧ vs.length = ts.length, fun σ' H2 hN => ?_, ?_⟩
      · obtain ⟨e2, ts, vs, y3, o', h1, h2, h3, h4, h5, h6, h7, h8, h9, h10⟩ := hN
        exact ⟨L.length - e2, by omega, e2, ts, vs, y3, o', h1, h2, h3, h4, h6, rfl, h7, h8, h9, h10⟩
      refine ⟨_, rfl, _, rfl, _, _, c, rfl, rfl, by omega, in63 hl lt, in_S lt, item_S hc, rfl, _, rfl, ite2 (fun h => ?_) (fun h => ?_)⟩
      · have ec : c = 32 := by
          have h := of_decide_eq_true h
          injection h with h
          have h2 : [c] = [32] := congrArg (fun z : Str => z.cps.toList) h
          exact (List.cons.inj h2).1
        subst ec
        have hr' : Lex (L.drop (e + 1)) o' := by
          cases hx' with
          | sp h => exact h
          | bad n _ => exact absurd rfl n
          | tok n _ _ => exact absurd rfl n
        exact ⟨_, rfl, _, _, rfl, rfl, e + 1, ts, vs, y3, o', rfl, kp, eD, tl, Nat.lt_succ_self _, lt, hr', eo, by omega, lvs⟩
      · have nc : c ≠ 32 := fun z => h (decide_eq_true (by rw [z]; rfl))
        refine ⟨_, rfl, _, rfl, L, e, c, rfl, hc, trivial, hl, kp.1, fun H2 p r => ?_⟩
        obtain ⟨k2, np, r1, r2⟩ := r
        cases hlx : lexC c (L.drop (e + 1)) with
        | none =>
          obtain ⟨e9, h9⟩ := r1 hlx
          have en : o = none := by
            rw [eo]
            cases hx' with
            | sp h => exact absurd rfl nc
            | bad _ _ => rfl
            | tok _ h9 _ =>
              rw [hlx] at h9
              cases h9
          refine ⟨p, _, rfl, .inl (.inl h9), rfl, _, _, rfl, _, _, rfl, rfl, ?_⟩
          refine ⟨_, rfl, rfl, _, rfl, iteT ?_⟩
          exact (q H2 (kp.trans k2)).1 en
        | some tk =>
          obtain ⟨t, k⟩ := tk
          obtain ⟨u, nu, h9, h10⟩ := r2 t k hlx
          obtain ⟨o2, hx2, eo2⟩ : ∃ o2, Lex ((c :: L.drop (e + 1)).drop k) o2 ∧ o' = o2.map (t :: ·) := by
            cases hx' with
            | sp h => exact absurd rfl nc
            | bad _ h11 =>
              rw [hlx] at h11
              cases h11
            | tok _ h11 h12 =>
              rw [hlx] at h11
              cases h11
              exact ⟨_, h12, rfl⟩
          have kpos := lexC_pos hlx
          refine ⟨p, _, rfl, .inl (.inl h9), rfl, _, _, rfl, _, _, rfl, rfl, ?_⟩
          refine ⟨_, rfl, rfl, _, rfl, iteF ?_⟩
          have eD2 : H2 D = some (.lst vs) := k2.2 D _ nDP eD
          refine ⟨_, rfl, .inl ⟨rfl, _, SqL.of eD2⟩, _, rfl, D, _, _, rfl, rfl, eD2, ?_, ?_⟩
          · rw [lvs]
            exact Nat.lt_of_le_of_lt (Nat.le_trans (Nat.le_trans lts he) hl) (by decide)
          · have kle := lexC_le hlx
            have rl : (L.drop (e + 1)).length = L.length - (e + 1) := List.length_drop
            have ed : (c :: L.drop (e + 1)).drop k = L.drop (e + k) := by
              rw [← drop_at hc, List.drop_drop]
            rw [ed] at hx2
            refine ⟨e + k, ts ++ [t], vs ++ [.ref u], _, o2, rfl, ⟨?_, fun b ob n hb => ?_⟩, upd_same, ?_, by omega, by omega, hx2, ?_, ?_, ?_⟩
            · obtain ⟨ps, h1, h2⟩ := k2.1
              exact ⟨ps, by rw [upd_ne nDP.symm]; exact h1, h2⟩
            · rw [upd_ne (ne_of_none hb hD)]
              exact (kp.trans k2).2 b ob n hb
            · refine Paired.snoc ((tl.kp kp.1 k2).imp fun q t hq => ?_) ⟨u, rfl, ?_⟩
              · rw [upd_ne (ne_of hq eD2 (fun z => by cases z))]
                exact hq
              · rw [upd_ne (ne_of h10 eD2 (fun z => by cases z))]
                exact h10
            · rw [eo, eo2]
              cases o2 with
              | none => rfl
              | some x =>
                show some (ts ++ (t :: x)) = some ((ts ++ [t]) ++ x)
                rw [List.append_assoc]
                rfl
            · rw [List.length_append, List.length_singleton]
              omega
            · rw [List.length_append, List.length_append, lvs]
              rfl
    · have ge : e = L.length := by
        have : ¬ ((e : Int) < (S L).length) := fun z => h (decide_eq_true z)
        rw [S_len] at this
        omega
      rw [ge, List.drop_length] at hx'
      have eo' : o = some ts := by
        cases hx'
        rw [eo]
        show some (ts ++ []) = some ts
        rw [List.append_nil]
      exact ⟨_, rfl, (q H' kp).2 ts D vs eo' hD eD tl⟩
end
end K1

set_option maxRecDepth 100000
set_option maxHeartbeats 4000000
namespace K1
open PySem PySem.Spec PyProof.Rows L2 GD
/-! ### tokens as data -/
def tokD : Tok → PyData
  | .word l => .tuple [.str "word", .str (S l)]
  | .num n => .tuple [.str "number", .int (n : Nat)]
  | .str l => .tuple [.str "string", .str (S l)]
  | .sign c => .tuple [.str "sign", .str (S [c])]
theorem tokD_dp {K : PySem.W.Frag} {H : Hp} {q : Addr} {t : Tok} (h : H q = some (.tup (tokV t))) : Dp K H (.ref q) (tokD t) := by
  cases t with
  | word l => exact .tup (SqT.of h) (.cons (.str _) (.cons (.str _) .nil))
  | num n => exact .tup (SqT.of h) (.cons (.str _) (.cons (.int _) .nil))
  | str l => exact .tup (SqT.of h) (.cons (.str _) (.cons (.str _) .nil))
  | sign c => exact .tup (SqT.of h) (.cons (.str _) (.cons (.str _) .nil))
theorem toksD_dp {K : PySem.W.Frag} {H : Hp} {D : Addr} {vs : List V} {ts : List Tok} (h : H D = some (.lst vs)) (t : TokL H vs ts) : Dp K H (.ref D) (.list (ts.map tokD)) := by
  refine .lst (SqL.of h) ?_
  induction t with
  | nil => exact .nil
  | @cons v u vs ts r t ih =>
    obtain ⟨q, rfl, hq⟩ := r
    refine .cons (tokD_dp hq) ?_
    have : ∀ {vs ts}, TokL H vs ts → DpAll K H vs (ts.map tokD) := fun {vs ts} t => by
      induction t with
      | nil => exact .nil
      | @cons v u vs ts r t ih =>
        obtain ⟨q, rfl, hq⟩ := r
        exact .cons (tokD_dp hq) ih
    exact this t
end K1

set_option maxRecDepth 100000
set_option maxHeartbeats 4000000
namespace K1
open PySem PySem.Spec PyProof.Rows L2 GD
/-! ### the box -/
def Bx (b : Addr) (H H' : Hp) : Prop := ∀ c o, c ≠ b → H c = some o → H' c = some o
theorem Bx.refl (b : Addr) (H : Hp) : Bx b H H := fun _ _ _ h => h
theorem Bx.trans {b : Addr} {H H1 H2 : Hp} (x : Bx b H H1) (y : Bx b H1 H2) : Bx b H H2 := fun c o n h => y c o n (x c o n h)
theorem Bx.same {b : Addr} {H H' : Hp} (s : Same H H') : Bx b H H' := fun c o _ h => s c o h
theorem Box.draw {H : Hp} {b d : Addr} {ds : List Int} {n : Nat} (x : Box H b d ds n) : Box (upd H b (.lst [.ref d, .int ((n + 1 : Nat) : Int)])) b d ds (n + 1) :=
  ⟨upd_same, by rw [upd_ne x.ne]; exact x.2.1, x.2.2⟩
theorem Bx.draw {H : Hp} {b : Addr} {o : HO} : Bx b H (upd H b o) := fun c u n h => by rw [upd_ne n]; exact h
theorem Box.new {H : Hp} {b d l : Addr} {ds : List Int} {n : Nat} {o : HO} (x : Box H b d ds n) (h : H l = none) : Box (upd H l o) b d ds n :=
  ⟨by rw [upd_ne (ne_of_none x.1 h)]; exact x.1, by rw [upd_ne (ne_of_none x.2.1 h)]; exact x.2.1, x.2.2⟩
theorem Bx.new {H : Hp} {b l : Addr} {o : HO} (h : H l = none) : Bx b H (upd H l o) := Bx.same (Same.lst (Same.refl H) h)
theorem Bx.free {b c d : Addr} {H H' : Hp} {ds : List Int} {n : Nat} (x : Bx b H H') (y : Box H b d ds n) (y' : Box H' b d ds n ∨ H' b ≠ none) (h : H' c = none) : H c = none := by
  cases e : H c with
  | none => rfl
  | some o =>
    by_cases z : c = b
    · subst z
      rcases y' with y' | y'
      · rw [y'.1] at h
        cases h
      · exact absurd h y'
    · rw [x c o z e] at h
      cases h

/-- draws and new objects -/
structure Bs (b d : Addr) (ds : List Int) (H H' : Hp) (n : Nat) : Prop where
  bx : Bx b H H'
  box : Box H' b d ds n
  free : ∀ c, H' c = none → H c = none
theorem Bs.refl {b d : Addr} {ds : List Int} {H : Hp} {n : Nat} (h : Box H b d ds n) : Bs b d ds H H n := ⟨Bx.refl _ _, h, fun _ z => z⟩
theorem Bs.draw {b d : Addr} {ds : List Int} {H H' : Hp} {n : Nat} (h : Bs b d ds H H' n) : Bs b d ds H (upd H' b (.lst [.ref d, .int ((n + 1 : Nat) : Int)])) (n + 1) :=
  ⟨h.bx.trans Bx.draw, h.box.draw, fun c z => h.free c (by
    by_cases e : c = b
    · rw [e, upd_same] at z
      cases z
    · rw [upd_ne e] at z
      exact z)⟩
theorem Bs.new {b d l : Addr} {ds : List Int} {H H' : Hp} {n : Nat} {o : HO} (h : Bs b d ds H H' n) (nl : H' l = none) : Bs b d ds H (upd H' l o) n :=
  ⟨h.bx.trans (Bx.new nl), h.box.new nl, fun c z => h.free c (by
    by_cases e : c = l
    · rw [e]
      exact nl
    · rw [upd_ne e] at z
      exact z)⟩
theorem Bs.trans {b d : Addr} {ds : List Int} {H H1 H2 : Hp} {n m : Nat} (x : Bs b d ds H H1 n) (y : Bs b d ds H1 H2 m) : Bs b d ds H H2 m :=
  ⟨x.bx.trans y.bx, y.box, fun c z => x.free c (y.free c z)⟩
theorem Bs.nb {b d l : Addr} {ds : List Int} {H H' : Hp} {n : Nat} (h : Bs b d ds H H' n) (nl : H' l = none) : l ≠ b := fun z => by rw [z, h.box.1] at nl; cases nl
theorem idx {m : Nat} {r : Int} (h0 : 0 ≤ r) (h1 : r < (m : Int)) : ∃ j : Nat, r = (j : Int) ∧ j < m := ⟨r.toNat, by omega, by omega⟩
theorem le9 {n : Nat} (h : n ≤ 100) : n ≤ sizeLine := Nat.le_trans h (by decide)
end K1

set_option maxRecDepth 100000
set_option maxHeartbeats 4000000
/-! arguments -/
namespace K6
open PySem hiding Tok code
open PySem.Spec PyProof.Rows GD K1
open L2 hiding rest
abbrev sAreA : Stmt := topS 26
theorem szle {n : Nat} (h : n ≤ 5000) : n ≤ sizeLine := Nat.le_trans h (by decide)
theorem szlt {n : Nat} (h : n ≤ 5000) : n < sizeLine := Nat.lt_of_le_of_lt h (by decide)
theorem sfree {H H' : Hp} {p : Addr} (s : Same H H') (n : H' p = none) : H p = none := by
  cases e : H p with
  | none => rfl
  | some o => rw [s p o e] at n; cases n
theorem strans {H H1 H2 : Hp} (a : Same H H1) (b : Same H1 H2) : Same H H2 := fun p o e => b p o (a p o e)
theorem snew {H H1 : Hp} {D : Addr} {o : HO} (s : Same H H1) (n : H1 D = none) : Same H (upd H1 D o) := strans s (Same.lst (Same.refl H1) n)
structure FO (P : Program) (w : World) (K : PySem.W.Frag) (mg : Str → Option Value) (base : Heap) (CX : CXT) (k : Nat) (x : Str) (ps : List Str) (sp : L2.Sp) (f : Addr) (fd : FuncData) : Prop where
  m : mg x = some (.ref f)
  kp : PySem.W.keepIn K (.ref f) = true
  b : Binds K fd ps []
  ok : FnOk P w K mg base CX k f fd ps sp
inductive AV | i (n : Int) | s (z : Str)
def aV : AV → V
  | .i n => .int n
  | .s z => .str z
def aB : AV → Bool
  | .i n => decide (-99999 ≤ n ∧ n ≤ 99999)
  | .s z => strV z
def aS : AV → Prop
  | .i _ => True
  | .s z => z.length ≤ 5000
def argsB (ad : List AV) : Bool := decide (ad.length ≤ 3) && ad.all aB
/-- both tables are there -/
structure T2 (PN PV : Addr) (H : Hp) : Prop where
  n : GxR.TabG H PN
  v : GxR.TabG H PV
/-- all but the tables stays -/
structure ST (PN PV : Addr) (H H' : Hp) : Prop where
  t : T2 PN PV H'
  k : ∀ q o, (∀ ps, o ≠ .tbl ps) → H q = some o → H' q = some o
section
variable {PN PV : Addr} {H H1 H2 : Hp}
theorem ST.trans (a : ST PN PV H H1) (b : ST PN PV H1 H2) : ST PN PV H H2 := ⟨b.t, fun q o n e => b.k q o n (a.k q o n e)⟩
theorem tab_same {P : Addr} (t : GxR.TabG H P) (s : Same H H1) : GxR.TabG H1 P := by
  obtain ⟨ps, e, r⟩ := t
  exact ⟨ps, s _ _ e, r⟩
theorem T2.st (t : T2 PN PV H) (s : Same H H1) : ST PN PV H H1 := ⟨⟨tab_same t.n s, tab_same t.v s⟩, fun q o _ e => s q o e⟩
theorem tab_wr {P l : Addr} {o u : HO} (t : GxR.TabG H P) (e : H l = some u) (n : ∀ ps, u ≠ .tbl ps) : GxR.TabG (upd H l o) P := by
  obtain ⟨ps, e1, r⟩ := t
  refine ⟨ps, ?_, r⟩
  rw [upd_ne (fun z => by rw [z, e] at e1; injection e1 with e1; exact n _ e1)]
  exact e1
theorem ST.wr {l : Addr} {xs : List V} {o : HO} (s : ST PN PV H H1) (nl : H l = none) (e : H1 l = some (.lst xs)) : ST PN PV H (upd H1 l o) :=
  ⟨⟨tab_wr s.t.n e (fun _ z => by cases z), tab_wr s.t.v e (fun _ z => by cases z)⟩, fun q u n e1 => by
    rw [upd_ne (fun z => by rw [z, nl] at e1; cases e1)]
    exact s.k q u n e1⟩
theorem T2.kpV (t : T2 PN PV H) (ne : PN ≠ PV) (k : Kp PV H H1) : ST PN PV H H1 := by
  obtain ⟨ps, e, r⟩ := t.n
  obtain ⟨ps', e', r'⟩ := t.v
  exact ⟨⟨⟨ps, k.2 _ _ ne e, r⟩, k.1⟩, fun q o n e1 => k.2 q o (fun z => by
    rw [z, e'] at e1
    injection e1 with e1
    exact n _ e1.symm) e1⟩
theorem T2.kpN (t : T2 PN PV H) (ne : PN ≠ PV) (k : Kp PN H H1) : ST PN PV H H1 := by
  obtain ⟨ps, e, r⟩ := t.n
  obtain ⟨ps', e', r'⟩ := t.v
  exact ⟨⟨k.1, ⟨ps', k.2 _ _ ne.symm e', r'⟩⟩, fun q o n e1 => k.2 q o (fun z => by
    rw [z, e] at e1
    injection e1 with e1
    exact n _ e1.symm) e1⟩
end
section
variable {P : Program} {w : World} {K : PySem.W.Frag} {mg : Str → Option Value} {base : Heap} {PN PV : Addr}
def spAreA (PN PV : Addr) : L2.Sp := fun vs H Q _ => ∃ (ar : Addr) (ad : List AV), vs = [.ref ar] ∧ H ar = some (.tup (ad.map aV)) ∧ T2 PN PV H ∧ (∀ x ∈ ad, aS x) ∧ ∀ H', ST PN PV H H' → Q (.bl (argsB ad)) H'
theorem scAreA : FnScope ["values", "value"] ["values"] (defScope sAreA) := ⟨rfl, rfl, rfl, by decide +kernel, rfl, by decide +kernel, by decide +kernel⟩
theorem ok_areA {f f1 : Addr} {fd fd1 : FuncData} (F : Fun K "are_arguments" "are_arguments" sAreA f fd) (T : Txt K mg) (T3 : Txt K mg) (TA : ∃ t, mg "ARGUMENTS_MOST" = some (.int 3 t)) (ne : PN ≠ PV)
    (FV : FO P w K mg base CX0 2 "is_value" ["value"] (spValue PV) f1 fd1) : FnOk P w K mg base CX0 3 f fd ["values"] (spAreA PN PV) := by
  have sc := scAreA
  obtain ⟨t1, gAM⟩ := TA
  refine F.ok sc (fun vs H Q E h => ?_) (fun cdv A outer s H vs Q E hr h => ?_)
  · obtain ⟨ar, ad, rfl, _⟩ := h
    rfl
  · obtain ⟨ar, ad, rfl, ha, t2, sm, q⟩ := h
    refine ⟨_, (pss_one (ps_ret (pe_and (pe_cmpR op_le (pe_callB call_len_seq (by rfl) T.len (by decide +kernel) (pa_cons (pv 0) pa_nil)) (pe_gint rfl gAM) (nomark _)) (pe_one (pe_callB (cr_all rfl) (by rfl) T3.all (by decide +kernel) (pa_cons (pe_lc (own := [("value", 1)]) rfl sc.nd (pi_tup (pv 0)) (blkOk_by (own := [("value", 1)]) (N := ["values", "value"]) (sc := defScope sAreA) (by decide +kernel)) (fun _ _ _ _ _ => (pg_name (i := 1) sc.nd rfl (Or.inl rfl))) (fun _ _ _ _ _ => pts_nil) (fun _ _ _ _ _ => (pe_call FV.ok hr (by rfl) FV.m FV.kp FV.b .nil pass0 (pa_cons (pv 1) pa_nil)))) pa_nil)))))), ?_⟩
    refine ⟨_, rfl, ar, _, rfl, .inr (SqT.of ha), _, _, rfl, rfl, _, rfl, ?_⟩
    rw [List.length_map]
    cases hl : decide (((ad.length : Nat) : Int) ≤ 3) with
    | false =>
      refine iteF ?_
      have e : argsB ad = false := by
        unfold argsB
        rw [decide_eq_false (by have := of_decide_eq_false hl; omega)]
        rfl
      rw [← e]
      exact q _ (t2.st (Same.refl H))
    | true =>
      have l3 : ad.length ≤ 3 := by have := of_decide_eq_true hl; omega
      refine iteT ?_
      refine ⟨_, rfl, ar, rfl, ⟨_, SqT.of ha⟩, fun l nl => ?_⟩
      refine lc_it (walk_tup (K := K) (a := ar) (xs := ad.map aV)) (fun j H' => ST PN PV H H' ∧ H' l = some (.lst (((ad.take j).map aB).map V.bl))) ⟨t2.st (Same.lst (Same.refl _) nl), upd_same⟩ (fun i H' _ pv => SqT.of (pv.1.k _ _ (fun _ z => by cases z) ha)) (fun j x H2 H3 hj pv y => ?_) (fun H2 pv => ?_)
      · obtain ⟨rfl, hx⟩ := y
        rw [List.getElem?_map, Option.map_eq_some_iff] at hx
        obtain ⟨a, hi, rfl⟩ := hx
        obtain ⟨s2, el⟩ := pv
        have fin : ∀ H4, ST PN PV H3 H4 → ∃ acc : List V, H4 l = some (.lst acc) ∧ acc.length < sizeLine ∧ ST PN PV H (upd H4 l (.lst (acc ++ [V.bl (aB a)]))) ∧ (upd H4 l (.lst (acc ++ [V.bl (aB a)]))) l = some (.lst (((ad.take (j + 1)).map aB).map V.bl)) := fun H4 s4 => by
          have e4 := s4.k _ _ (fun _ z => by cases z) el
          refine ⟨_, e4, ?_, (s2.trans s4).wr nl e4, ?_⟩
          · rw [List.length_map, List.length_map, List.length_take]
            exact szlt (by omega)
          · rw [upd_same, List.take_add_one, hi, List.map_append, List.map_append]
            rfl
        refine ⟨rfl, _, rfl, ?_⟩
        have sa := sm a (List.mem_of_getElem? hi)
        cases a with
        | s z => exact .inl ⟨z, rfl, sa, s2.t.v, fun H4 kp => fin H4 (s2.t.kpV ne kp)⟩
        | i n => exact .inr ⟨n, rfl, fin H3 (s2.t.st (Same.refl _))⟩
      · have lv : (ad.map aV).length = ad.length := List.length_map _
        rw [lv, List.take_length] at pv
        refine ⟨l, ad.map aB, rfl, SqL.of pv.2, ?_⟩
        have e : argsB ad = (ad.map aB).all id := by
          unfold argsB
          rw [decide_eq_true l3, Bool.true_and, List.all_map]
          rfl
        rw [← e]
        exact q _ pv.1
end
end K6

set_option maxRecDepth 100000
set_option maxHeartbeats 4000000
/-! write_value, _law_value_text, number_of -/
namespace K6
open PySem hiding Tok code
open PySem.Spec PyProof.Rows GD K1
open L2 hiding rest
abbrev sWVal : Stmt := topS 31
abbrev sLVT : Stmt := topS 43
abbrev sNumOf : Stmt := topS 36
/-- the written form of a value -/
def aT : AV → Str
  | .i n => toString n
  | .s z => "\"" ++ z ++ "\""
section
variable {P : Program} {w : World} {K : PySem.W.Frag} {mg : Str → Option Value} {base : Heap} {PN PV : Addr}
def aZ : AV → Prop
  | .i n => n.natAbs.log2 < 1920
  | .s z => z.length ≤ 5000
def spWVal : L2.Sp := fun vs H Q _ => ∃ a : AV, vs = [aV a] ∧ aZ a ∧ Q (.str (aT a)) H
theorem scWVal : FnScope ["value"] ["value"] (defScope sWVal) := ⟨rfl, rfl, rfl, by decide +kernel, rfl, by decide +kernel, by decide +kernel⟩
theorem ok_wval {f : Addr} {fd : FuncData} (F : Fun K "write_value" "write_value" sWVal f fd) (T : Txt K mg) : FnOk P w K mg base CX0 1 f fd ["value"] spWVal := by
  have T3 := T
  have sc := scWVal
  refine F.ok sc (fun vs H Q E h => ?_) (fun cdv A outer s H vs Q E hr h => ?_)
  · obtain ⟨a, rfl, _⟩ := h
    rfl
  · obtain ⟨a, rfl, sm, q⟩ := h
    refine ⟨_, (pss_one (ps_ret (pe_ifExp (pt_val (pe_callB call_isi (by rfl) T3.isinstance (by decide +kernel) (pa_cons (pv 0) (pa_cons (pe_bltn (v := .ty "int") (by rfl) T3.bint (by decide +kernel) rfl) pa_nil)))) (pe_callTy call_str_int (by rfl) T.bstr (by decide +kernel) (pa_cons (pv 0) pa_nil)) (pe_joined (PJ.cons pe_str (PJ.cons (pe_fmt (pv 0)) (PJ.cons pe_str PJ.nil))))))), ?_⟩
    cases a with
    | s z =>
      refine ⟨_, rfl, _, _, _, _, false, rfl, .ty _, .base (.str _), kit_ty (by decide +kernel), _, rfl, iteF ?_⟩
      have sz : z.length ≤ 5000 := sm
      refine ⟨_, rfl, by decide, ?_⟩
      refine ⟨_, rfl, .inl ⟨z, rfl, szle sz, z, rfl, ?_, ?_⟩⟩
      · rw [show Str.empty = S [] from rfl, show (Str.ofString "\"") = S [34] from rfl, S_app, ← S_of z, S_app, S_len, List.length_append]
        have e : z.cps.toList.length = z.length := Array.length_toList
        exact Nat.le_trans (m := 6000) (by rw [e]; simp only [List.nil_append, List.length_append, List.length_cons, List.length_nil]; omega) (by decide)
      · refine ⟨_, rfl, ?_, ?_⟩
        · rw [show Str.empty = S [] from rfl, show (Str.ofString "\"") = S [34] from rfl, S_app, ← S_of z, S_app, S_app, S_len, List.length_append, List.length_append]
          have e : z.cps.toList.length = z.length := Array.length_toList
          exact Nat.le_trans (m := 6000) (by rw [e]; simp only [List.nil_append, List.length_append, List.length_cons, List.length_nil]; omega) (by decide)
        · have e : Str.empty ++ Str.ofString "\"" ++ z ++ Str.ofString "\"" = aT (.s z) := by
            rw [show Str.empty = S [] from rfl]
            unfold aT
            rw [show (Str.ofString "\"") = S [34] from rfl, S_app]
            rfl
          show Q (.str (Str.empty ++ Str.ofString "\"" ++ z ++ Str.ofString "\"")) H
          rw [e]
          exact q
    | i n =>
      refine ⟨_, rfl, _, _, _, _, true, rfl, .ty _, .base (.int _), kit_ty (by decide +kernel), _, rfl, iteT ?_⟩
      exact ⟨_, rfl, _, rfl, sm, q⟩
theorem uni_dig : ∀ c, c < 128 → Unicode.isDigit c = decide (c ∈ DIG) := by decide +kernel
def digB (z : Str) : Bool := !z.cps.toList.isEmpty && z.cps.toList.all fun c => decide (c ∈ DIG)
theorem isdig {z : Str} (ha : ∀ c ∈ z.cps.toList, c < 128) : PySem.Txt.isdigit z = digB z := by
  have e : ∀ l : List Nat, (∀ c ∈ l, c < 128) → l.all Unicode.isDigit = l.all fun c => decide (c ∈ DIG) := fun l => by
    induction l with
    | nil => exact fun _ => rfl
    | cons c r ih => exact fun h => by rw [List.all_cons, List.all_cons, ih fun c hc => h c (List.mem_cons_of_mem _ hc), uni_dig c (h c List.mem_cons_self)]
  show (decide (z.length > 0) && z.cps.all Unicode.isDigit) = _
  rw [← Array.all_toList, e _ ha]
  unfold digB
  congr 1
  have el : z.cps.toList.length = z.length := Array.length_toList
  cases hl : z.cps.toList with
  | nil =>
    rw [hl] at el
    exact decide_eq_false (by rw [← el]; decide)
  | cons c r =>
    rw [hl] at el
    exact decide_eq_true (by rw [← el]; exact Nat.succ_pos _)
/-- what number_of gives, where the greatest number has L digits -/
def numB (z : Str) (m : Int) (L : Nat) : V := if digB z = true ∧ z.length ≤ L ∧ ((val z.cps.toList : Nat) : Int) ≤ m then .int (val z.cps.toList : Nat) else .non
def spNumOf : L2.Sp := fun vs H Q _ => ∃ (z : Str) (m : Nat) (L : Nat), vs = [.str z, .int m] ∧ z.length ≤ 5000 ∧ (∀ c ∈ z.cps.toList, c < 128) ∧ m < 100000 ∧ (Str.ofString (toString (m : Int))).length = L ∧ L ≤ 4 ∧ Q (numB z m L) H
theorem scNumOf : FnScope ["text", "most"] ["text", "most"] (defScope sNumOf) := ⟨rfl, rfl, rfl, by decide +kernel, rfl, by decide +kernel, by decide +kernel⟩
theorem ok_numOf {f : Addr} {fd : FuncData} (F : Fun K "number_of" "number_of" sNumOf f fd) (T : Txt K mg) : FnOk P w K mg base CX0 1 f fd ["text", "most"] spNumOf := by
  have T3 := T
  have sc := scNumOf
  refine F.ok sc (fun vs H Q E h => ?_) (fun cdv A outer s H vs Q E hr h => ?_)
  · obtain ⟨z, m, L, rfl, _⟩ := h
    rfl
  · obtain ⟨z, m, L, rfl, hz, ha, mh, hL, L4, q⟩ := h
    refine ⟨_, (pss_cons (ps_if (PW.pt (pw_or (pt_not (pt_val (pe_m0 PySem.F.slot_str_isdigit PySem.F.type_str_isdigit mt_isdigit (pv 0)))) (pw_or1 (pt_cmpR op_gt (pe_callB call_len_str (by rfl) T.len (by decide +kernel) (pa_cons (pv 0) pa_nil)) (pe_callB call_len_str (by rfl) T.len (by decide +kernel) (pa_cons (pe_callTy call_str_int (by rfl) T.bstr (by decide +kernel) (pa_cons (pv 1) pa_nil)) pa_nil)) (nomark _)))))
      (pss_one (ps_ret pe_non))
      pss_nil)
      (pss_one (ps_ret (pe_ifExp (pt_cmpR op_le (pe_callTy call_int_str (by rfl) T.bint (by decide +kernel) (pa_cons (pv 0) pa_nil)) (pv 1) (nomark _)) (pe_callTy call_int_str (by rfl) T.bint (by decide +kernel) (pa_cons (pv 0) pa_nil)) pe_non)))), ?_⟩
    refine ⟨_, rfl, ⟨z, rfl⟩, z, rfl, rfl, trivial, ?_⟩
    rw [isdig ha]
    cases hd : digB z with
    | false =>
      have e : numB z m L = .non := if_neg fun x => by rw [hd] at x; exact absurd x.1 (by decide)
      rw [e] at q
      exact ⟨_, rfl, q⟩
    | true =>
      refine ⟨_, rfl, ?_⟩
      refine iteF ?_
      refine ⟨_, rfl, _, rfl, szle hz, _, rfl, _, rfl, log_small mh, _, rfl, szle (by rw [hL]; omega), _, _, rfl, rfl, _, rfl, ?_⟩
      rw [hL]
      have dl : z.cps.toList ≠ [] ∧ ∀ c ∈ z.cps.toList, c ∈ DIG := by
        unfold digB at hd
        rw [Bool.and_eq_true, List.all_eq_true] at hd
        exact ⟨fun x => by rw [x] at hd; exact absurd hd.1 (by decide), fun c hc => of_decide_eq_true (hd.2 c hc)⟩
      refine ite2 (fun h => ?_) (fun h => ?_)
      · have h := of_decide_eq_true h
        have e : numB z m L = .non := if_neg fun x => by have := x.2.1; omega
        rw [e] at q
        exact q
      · have h : ¬ ((L : Int) < z.length) := fun x => h (decide_eq_true x)
        have rd : PySem.intText? z = some ((val z.cps.toList : Nat) : Int) := PySem.intText_digits (x := z) (fun d hd => dig_range (dl.2 d hd)) dl.1 (by omega)
        refine ⟨_, rfl, z, _, rfl, rd, by omega, _, rfl, _, _, rfl, rfl, _, rfl, ite2 (fun h2 => ?_) (fun h2 => ?_)⟩
        · have h2 := of_decide_eq_true h2
          refine ⟨_, rfl, z, _, rfl, rd, by omega, ?_⟩
          have e : numB z m L = .int (val z.cps.toList : Nat) := if_pos ⟨hd, by omega, h2⟩
          rw [e] at q
          exact q
        · have e : numB z m L = .non := if_neg fun x => h2 (decide_eq_true x.2.2)
          rw [e] at q
          exact q
end
end K6

set_option maxRecDepth 100000
set_option maxHeartbeats 4000000
/-! len(set(names)): how many different texts -/
namespace K6
open PySem hiding Tok code
open PySem.Spec PyProof.Rows
/-- the different ones, in the order in which they come -/
def dif : List Str → List Str
  | [] => []
  | x :: r => if x ∈ r then dif r else x :: dif r
/-- how many different ones are among the first i -/
def difN (xs : List Str) : Nat → Nat
  | 0 => 0
  | i + 1 => if xs.getD i Str.empty ∈ xs.take i then difN xs i else difN xs i + 1
theorem difN_le (xs : List Str) : ∀ i, difN xs i ≤ i
  | 0 => Nat.le_refl _
  | i + 1 => by
    have := difN_le xs i
    unfold difN
    split <;> omega
theorem take_mem (xs : List Str) {i : Nat} (h : i < xs.length) (k : Str) : decide (k ∈ xs.take (i + 1)) = (decide (k ∈ xs.take i) || decide (k = xs.getD i Str.empty)) := by
  rw [List.take_add_one, List.getD_eq_getElem?_getD, List.getElem?_eq_getElem h, ← Bool.decide_or]
  refine decide_eq_decide.mpr ?_
  show k ∈ xs.take i ++ [xs[i]] ↔ k ∈ xs.take i ∨ k = xs[i]
  rw [List.mem_append, List.mem_singleton]
section
variable {prog : Program} {w : World} {A : Around} {R : Result → Shared → Prop} {I : Addr} {fp wr : List Addr} {G : Array GenState → Array GenState → Prop} {n : Nat} {P : Nat → Value → Prop} {St : Nat → Shared → Prop}
theorem set_loop (W : WalksS prog w A.in1 I fp wr G n P St) {S : Addr} (out : S ∉ fp) {xs : List Str} (hn : xs.length = n) (room : n + 1 < scanBound)
    (at_ : ∀ i v, P i v → ∃ t, v = .str (xs.getD i Str.empty) t) (j : Nat) :
    ∀ (i : Nat) (s : Shared), i + j = n → St i s → s.heap.SetOf (strKind prog w) S (fun k => decide (k ∈ xs.take i)) (difN xs i) →
      (∀ s', Moved (S :: wr) G s s' → s'.heap.SetOf (strKind prog w) S (fun k => decide (k ∈ xs.take n)) (difN xs n) → R (.ok (.ret .none)) s') →
      codeAny (model prog w) A (.builtin "set.update.loop" ⟨[.ref S, .ref I], []⟩) R s := by
  have nw : S ∉ wr := fun h => out (W.sub _ h)
  have stay : ∀ {s s' : Shared} {T : Str → Bool} {c : Nat}, Moved wr G s s' → s.heap.SetOf (strKind prog w) S T c → s'.heap.SetOf (strKind prog w) S T c := fun m hS => by
    obtain ⟨o, es, ep, t, ho, r⟩ := hS
    exact ⟨o, es, ep, t, m.heap S _ nw ho, r⟩
  have more : ∀ {s s' : Shared}, Moved wr G s s' → Moved (S :: wr) G s s' := fun m => m.mono fun b hb => List.mem_cons_of_mem _ hb
  induction j with
  | zero =>
    intro i s hi hst hS hR
    obtain rfl : i = n := hi
    refine codeAny_builtin F.entry_set_update_loop ?_
    rw [Around.under_plainId F.plain_set_update_loop _]
    show wpAny _ A.in1 (pyNext (.ref I) >>= _) _ _ s
    exact wpAny_bind (W.done s _ _ hst fun s' m => wpAny_pure (hR s' (more m) (stay m hS)))
  | succ j ih =>
    intro i s hi hst hS hR
    have lt : i < n := by omega
    refine codeAny_builtin F.entry_set_update_loop ?_
    rw [Around.under_plainId F.plain_set_update_loop _]
    show wpAny _ A.in1 (pyNext (.ref I) >>= _) _ _ s
    refine wpAny_bind (W.item i s _ _ lt hst fun v s' hv hst' m => ?_)
    obtain ⟨t, rfl⟩ := at_ i v hv
    refine wpAny_bind (m := holding [Value.str (xs.getD i Str.empty) t] (setAdd S (.str (xs.getD i Str.empty) t))) (wpAny_holding ?_)
    unfold setAdd
    refine wpAny_holding (wpAny_bind ((strKind prog w).pyHash (k := xs.getD i Str.empty) (strKind_is _ _ _ _) ?_))
    have le := difN_le xs i
    have hS1 := stay m hS
    refine wpAny_setAddHashed_of (knd := strKind prog w) (s := { s' with toks := s'.toks + 1 }) (strKind_is _ _ _ _) rfl hS1 (by omega) fun h' keeps hS2 => ?_
    have hS3 : h'.SetOf (strKind prog w) S (fun k => decide (k ∈ xs.take (i + 1))) (difN xs (i + 1)) :=
      SetOf_congr hS2 (fun k => (take_mem xs (by omega) k).symm) (by
        show (if decide (xs.getD i Str.empty ∈ xs.take i) = true then _ else _) = if _ then _ else _
        by_cases e : xs.getD i Str.empty ∈ xs.take i
        · rw [if_pos (decide_eq_true e), if_pos e]
        · rw [if_neg (by rw [decide_eq_false e]; decide), if_neg e])
    have apart : ∀ b, b ≠ S → ∀ o, s'.heap.get? b = some o → h'.get? b = some o := fun b ne o e => by
      rw [keeps.2 b ne]
      exact e
    refine wpAny_pure ⟨plainId_quiet F.plain_set_update_loop _, ih (i + 1) _ (by omega) (W.frame _ s' _ _ hst' (Nat.le_succ _) fun b hb o e => apart b (fun z => out (z ▸ hb)) o e) hS3 fun s2 m2 hS4 => ?_⟩
    exact hR s2 (Moved.trans W.gtrans ((more m).then_heap (Nat.le_succ _) fun b o hb e => apart b (fun z => hb (z ▸ List.mem_cons_self)) o e) m2) hS4
end
end K6

set_option maxRecDepth 100000
set_option maxHeartbeats 8000000
/-! set(names) of a tuple of texts, and len(set(names)) -/
namespace K6
open PySem hiding Tok code
open PySem.Spec PyProof.Rows
abbrev emptySet (led : Bool) : Obj := { cls := .type "set", dict := none, data := .set #[] 0 (.fresh 0 0 led) }
section
variable {prog : Program} {w : World} {A : Around} {E : Value → Shared → Prop} {s : Shared}
/-- what holds of the heap behind set(names) -/
def Made (prog : Program) (w : World) (s : Shared) (xs : List Str) (h' : Heap) : Prop :=
  h'.SetOf (strKind prog w) s.heap.objs.size (fun k => decide (k ∈ xs)) (difN xs xs.length) ∧ ∀ b o, b < s.heap.objs.size → s.heap.get? b = some o → h'.get? b = some o
theorem fill {l : Addr} {items : Array Value} {xs : List Str} {led : Bool} (hh : A.handled = none) (hl : s.heap.IsTuple l items) (hi : StrsAre items.toList xs) (room : xs.length + 1 < scanBound)
    {Q : PySem.Fin → Shared → Prop} (q : ∀ h' tk, Made prog w s xs h' → Q (.done (.ret Value.none)) { s with heap := h', toks := tk }) :
    wpAny (model prog w) A (Builtin.«set.__init__» ⟨[.ref s.heap.objs.size, .ref l], []⟩) Q E { s with heap := s.heap.push (emptySet led) } := by
  have lt : l < s.heap.objs.size := by
    obtain ⟨o, ho, _⟩ := hl
    exact Heap.lt_size ho
  have hl1 : (s.heap.push (emptySet led)).IsTuple l items := hl.push _
  have hsz : xs.length = items.size := by rw [← StrsAre.len_eq hi, Array.length_toList]
  have e1 := PySem.F.sub_tuple_set
  have e2 := PySem.F.sub_tuple_frozenset
  have e3 : (Value.type "tuple" == Value.type "dict") = false := by decide
  have hl2 := hl1
  obtain ⟨ol, hol, hcl, nl, hdl⟩ := hl2
  obtain ⟨ocls, odict, odata, oslots⟩ := ol
  simp only at hcl hdl
  subst hcl; subst hdl
  unfold Builtin.«set.__init__» noKeywords Builtin.Frozenset.updateFrom
  generalize hPI : pyIter = PI
  wp_walk
  subst hPI
  have hS : (s.heap.push (emptySet led)).get? s.heap.objs.size = some (emptySet led) := Heap.get?_push_size _ rfl
  have sz : (s.heap.push (emptySet led)).objs.size = s.heap.objs.size + 1 := Heap.size_push _ _
  refine wpAny_pyIter_tuple hl1 ?_
  refine wpAny_bind (wpAny_runValue ?_)
  have hneI : l ≠ (s.heap.push (emptySet led)).objs.size := by rw [sz]; exact Nat.ne_of_lt (Nat.lt_succ_of_lt lt)
  have hSf : s.heap.objs.size ∉ [(s.heap.push (emptySet led)).objs.size, l] := by
    rw [sz]
    simp only [List.mem_cons, List.not_mem_nil, or_false, not_or]
    exact ⟨Nat.ne_of_lt (Nat.lt_succ_self _), Nat.ne_of_gt lt⟩
  refine set_loop (n := items.size) ((Walks.tuple (by simpa using hh) _ l hneI items).toS) hSf hsz (hsz ▸ room) (fun i v hv => SS.strs_at hi i v (by rw [Array.getElem?_toList]; exact hv)) items.size 0 _ (Nat.zero_add _)
    ⟨⟨_, Heap.get?_push_size _ rfl, rfl, rfl⟩, hl1.push _⟩ ?_ fun s' m hS' => ?_
  · exact SetOf_congr ((setObjOf_fresh (knd := strKind prog w) led).setOf (Heap.get?_push_of_some _ hS) (by unfold scanBound; omega)) (fun _ => rfl) rfl
  · obtain ⟨h', g', d', tk', os'⟩ := s'
    obtain rfl : g' = s.gens := m.gens
    obtain rfl : d' = s.drawn := m.drawn
    obtain rfl : os' = s.os := m.os
    rw [← hsz, List.take_length] at hS'
    refine wpAny_pure (wpAny_pure (q h' tk' ⟨hS', fun b o hb e => m.heap b o ?_ (Heap.get?_push_of_some _ (Heap.get?_push_of_some _ e))⟩))
    rw [sz]
    simp only [List.mem_cons, List.not_mem_nil, or_false, not_or]
    exact ⟨Nat.ne_of_lt hb, Nat.ne_of_lt (Nat.lt_succ_of_lt hb)⟩
/-- set(names), names a tuple of texts -/
theorem set_of_tuple {l : Addr} {items : Array Value} {xs : List Str} (hh : A.handled = none) (hl : s.heap.IsTuple l items) (hi : StrsAre items.toList xs) (room : xs.length + 1 < scanBound)
    {Q : Value → Shared → Prop} (q : ∀ h' tk, Made prog w s xs h' → Q (.ref s.heap.objs.size) { s with heap := h', toks := tk }) :
    wpAny (model prog w) A (call (.type "set") [.ref l]) Q E s := by
  obtain ⟨c, tl, hmro⟩ := PySem.F.called_set.mro
  have e1 := PySem.F.called_set.made
  have e2 := PySem.F.called_set.sub
  have e3 := PySem.F.called_set.notType
  have e4 := PySem.F.called_set.canCreate
  have e5 := PySem.F.typeCall_set_1 (.ref l)
  refine wpAny_call (codeAny_of_tree ?_)
  show wpAny _ _ (callAny (.type "set") _) _ _ _
  refine wpAny_pure ⟨Code.quiet_builtin _ (by decide +kernel), codeAny_builtin PySem.F.entry_type_call ?_⟩
  rw [Around.under_plain (weight_type_call_type "set" [.ref l] []) rfl]
  repeat (any_goals (first | assumption | wp_step))
  refine codeAny_mono (code_set_new_1 (.ref l) (E := E) (Q₁ := fun x s1 => ∃ led : Bool, x = .ref s.heap.objs.size ∧ s1 = { s with heap := s.heap.push (emptySet led) }) fun led => ⟨led, rfl, rfl⟩) fun r s1 hr => ?_
  match r, hr with
  | .error _, hr => exact hr
  | .ok (.ret x), hr =>
    obtain ⟨led, rfl, rfl⟩ := hr
    have hS : (s.heap.push (emptySet led)).get? s.heap.objs.size = some (emptySet led) := Heap.get?_push_size _ rfl
    have hT : Shared.TypeIs { s with heap := s.heap.push (emptySet led) } (.ref s.heap.objs.size) "set" := ⟨_, hS, rfl⟩
    have e6 := PySem.F.called_set.init.lookup
    have e7 := PySem.F.called_set.init.bind (.ref s.heap.objs.size)
    repeat (any_goals (first | assumption | wp_step))
    refine codeAny_mono (codeAny_call_builtin (R := wants (fun r s2 => r = .none ∧ ∃ h' tk, s2 = { s with heap := h', toks := tk } ∧ Made prog w s xs h') E) PySem.F.called_set.init.plain PySem.F.entry_set_init (check_set_init_1 hT ?_)) fun r2 s2 hr2 => ?_
    · exact fill (by simpa using hh) hl hi room fun h' tk m => ⟨rfl, h', tk, rfl, m⟩
    · match r2, hr2 with
      | .error _, hr2 => exact hr2
      | .ok (.ret _), hr2 =>
        obtain ⟨rfl, h', tk, rfl, m⟩ := hr2
        repeat (any_goals (first | assumption | wp_step))
        exact q _ _ m
end
end K6

set_option maxRecDepth 100000
set_option maxHeartbeats 4000000
/-! len(set(names)); has_twice -/
namespace L2
open PySem hiding Tok code
open PySem.Spec PyProof.Rows
section
variable {X : Cx}
def tLenSetS (K : PySem.W.Frag) (ta : TE) : TE := fun σ H Q => ta σ H fun x H1 => ∃ (l : Addr) (xs : List Str), x = .ref l ∧ SqT K H1 l (xs.map V.str) ∧ xs.length ≤ 1000 ∧ Q (.int (K6.difN xs xs.length : Nat)) H1
theorem pe_lenSetS {a : Expr} {ta : TE} {p p2 q pos : Pos} (hc : X.calm = true) (hg : Gl X "len") (hm : X.mg "len" = none) (hg2 : Gl X "set") (hm2 : X.mg "set" = none) (ha : PE X a ta)
    (na : starEach [a] X.env = (false, eval a X.env) :: starEach [] X.env := by rfl) : PE X (.Call (.Name "len" p) [.Call (.Name "set" p2) [a] [] q] [] pos) (tLenSetS X.K ta) := by
  refine ⟨fun pins s σ H Q I h => Call_ (ld_blt I hg hm boot_len ?_)⟩
  refine callWith_builtin1 (args_cons ?_ rfl) rfl rfl
  refine Call_ (ld_blt I hg2 hm2 boot_set ?_)
  refine callWith_type1 (args_cons (thn (ha.run pins s σ H _ I h) fun v s1 ⟨x, H1, I1, r1, q1⟩ => args_nil ?_) na) na rfl
  obtain ⟨l, xs, rfl, hq, h1, q1⟩ := q1
  cases r1
  obtain ⟨its, r, pl, hz⟩ := I1.tuple hq
  have le := K6.difN_le xs xs.length
  refine K6.set_of_tuple (I1.ok.hd hc) pl (by simpa using strsAre_of r) (by unfold scanBound; omega) fun h' tk m => args_nil ?_
  obtain ⟨⟨o, es, ep, t, ho, hex, hd, _, _, _, hf, hn⟩, hk⟩ := m
  have I2 : Inv X pins σ H1 { s1 with heap := h', toks := tk } := I1.kept fun b o e => hk b o (Heap.lt_size e) e
  exact call_len_set ho hex hd hf (by rw [hn]; omega) ⟨.int (K6.difN xs xs.length : Nat), H1, I2.tok _, ⟨_, by rw [hn]⟩, q1⟩
end
end L2
namespace K6
open PySem hiding Tok code
open PySem.Spec PyProof.Rows GD K1
open L2 hiding rest
abbrev sTwice : Stmt := topS 19
section
variable {P : Program} {w : World} {K : PySem.W.Frag} {mg : Str → Option Value} {base : Heap} {PN PV : Addr}
def twB (xs : List Str) : Bool := decide (difN xs xs.length < xs.length)
def spTwice (K : PySem.W.Frag) : L2.Sp := fun vs H Q _ => ∃ (a : Addr) (xs : List Str), vs = [.ref a] ∧ SqT K H a (xs.map V.str) ∧ xs.length ≤ 1000 ∧ Q (.bl (twB xs)) H
theorem scTwice : FnScope ["names"] ["names"] (defScope sTwice) := ⟨rfl, rfl, rfl, by decide +kernel, rfl, by decide +kernel, by decide +kernel⟩
theorem ok_twice {f : Addr} {fd : FuncData} (F : Fun K "has_twice" "has_twice" sTwice f fd) (T : Txt K mg) (hset : mg "set" = none) : FnOk P w K mg base CX0 1 f fd ["names"] (spTwice K) := by
  have T3 := T
  have sc := scTwice
  refine F.ok sc (fun vs H Q E h => ?_) (fun cdv A outer s H vs Q E hr h => ?_)
  · obtain ⟨a, xs, rfl, _⟩ := h
    rfl
  · obtain ⟨a, xs, rfl, ha, hl, q⟩ := h
    refine ⟨_, (pss_one (ps_ret (pe_cmpR op_lt (pe_lenSetS rfl (by rfl) T.len (by rfl) hset (pv 0)) (pe_callB call_len_seq (by rfl) T.len (by decide +kernel) (pa_cons (pv 0) pa_nil)) (nomark _)))), ?_⟩
    refine ⟨_, rfl, a, xs, rfl, ha, hl, _, rfl, a, _, rfl, .inr ha, _, _, rfl, rfl, ?_⟩
    have e : twB xs = decide (((difN xs xs.length : Nat) : Int) < ((xs.map V.str).length : Nat)) := by
      unfold twB
      rw [List.length_map]
      exact decide_eq_decide.mpr (by omega)
    rw [e] at q
    exact q
/-! are_names, are_entries -/
theorem kget {H H' : Hp} (tb : GxR.TabG H PN) (k : Kp PN H H') {q : Addr} {o : HO} (n : ∀ ps, o ≠ .tbl ps) (e : H q = some o) : H' q = some o := by
  obtain ⟨ps, e', _⟩ := tb
  exact k.2 q o (fun z => by
    rw [z, e'] at e
    injection e with e
    exact n _ e.symm) e
theorem ktrans {H H1 H2 : Hp} (a : Kp PN H H1) (b : Kp PN H1 H2) : Kp PN H H2 := ⟨b.1, fun q o n e => b.2 q o n (a.2 q o n e)⟩
theorem kwr {H H1 : Hp} {l : Addr} {xs : List V} {o : HO} (k : Kp PN H H1) (nl : H l = none) (e : H1 l = some (.lst xs)) : Kp PN H (upd H1 l o) :=
  ⟨tab_wr k.1 e (fun _ z => by cases z), fun q u n e1 => by
    rw [upd_ne (fun z => by rw [z, nl] at e1; cases e1)]
    exact k.2 q u n e1⟩
theorem knew {H : Hp} {l : Addr} {o : HO} (tb : GxR.TabG H PN) (nl : H l = none) : Kp PN H (upd H l o) :=
  ⟨tab_same tb (Same.lst (Same.refl _) nl), fun q u n e1 => by
    rw [upd_ne (fun z => by rw [z, nl] at e1; cases e1)]
    exact e1⟩
def namsB (xs : List Str) (m : Nat) : Bool := decide (xs.length ≤ m) && !twB xs && xs.all nameB
def spAreN (K : PySem.W.Frag) (PN : Addr) : L2.Sp := fun vs H Q _ => ∃ (a : Addr) (xs : List Str) (m : Nat), vs = [.ref a, .int m] ∧ H a = some (.tup (xs.map V.str)) ∧ m ≤ 1000 ∧ GxR.TabG H PN ∧ (∀ x ∈ xs, x.length ≤ 5000) ∧ ∀ H', Kp PN H H' → Q (.bl (namsB xs m)) H'
def spAreE (K : PySem.W.Frag) (PN : Addr) : L2.Sp := fun vs H Q _ => ∃ (a : Addr) (xs : List Str), vs = [.ref a] ∧ H a = some (.tup (xs.map V.str)) ∧ GxR.TabG H PN ∧ (∀ x ∈ xs, x.length ≤ 5000) ∧ ∀ H', Kp PN H H' → Q (.bl (decide (0 < xs.length) && namsB xs 3)) H'
abbrev sAreN : Stmt := topS 24
abbrev sAreE : Stmt := topS 25
theorem scAreN : FnScope ["texts", "most", "text"] ["texts", "most"] (defScope sAreN) := ⟨rfl, rfl, rfl, by decide +kernel, rfl, by decide +kernel, by decide +kernel⟩
theorem scAreE : FnScope ["names"] ["names"] (defScope sAreE) := ⟨rfl, rfl, rfl, by decide +kernel, rfl, by decide +kernel, by decide +kernel⟩
theorem ok_areN {f f1 f2 : Addr} {fd fd1 fd2 : FuncData} (F : Fun K "are_names" "are_names" sAreN f fd) (T : Txt K mg) (T3 : Txt K mg)
    (FT : FO P w K mg base CX0 1 "has_twice" ["names"] (spTwice K) f1 fd1) (FN : FO P w K mg base CX0 1 "is_name" ["text"] (spName PN) f2 fd2) : FnOk P w K mg base CX0 2 f fd ["texts", "most"] (spAreN K PN) := by
  have sc := scAreN
  refine F.ok sc (fun vs H Q E h => ?_) (fun cdv A outer s H vs Q E hr h => ?_)
  · obtain ⟨a, xs, m, rfl, _⟩ := h
    rfl
  · obtain ⟨a, xs, m, rfl, ha, hm, tb, sm, q⟩ := h
    refine ⟨_, (pss_one (ps_ret (pe_and (pe_cmpR op_le (pe_callB call_len_seq (by rfl) T.len (by decide +kernel) (pa_cons (pv 0) pa_nil)) (pv 1) (nomark _)) (pe_and (pe_not (pe_call FT.ok hr (by rfl) FT.m FT.kp FT.b .nil pass0 (pa_cons (pv 0) pa_nil))) (pe_one (pe_callB (cr_all rfl) (by rfl) T3.all (by decide +kernel) (pa_cons (pe_lc (own := [("text", 2)]) rfl sc.nd (pi_tup (pv 0)) (blkOk_by (own := [("text", 2)]) (N := ["texts", "most", "text"]) (sc := defScope sAreN) (by decide +kernel)) (fun _ _ _ _ _ => (pg_name (i := 2) sc.nd rfl (Or.inl rfl))) (fun _ _ _ _ _ => pts_nil) (fun _ _ _ _ _ => (pe_call FN.ok hr (by rfl) FN.m FN.kp FN.b .nil pass0 (pa_cons (pv 2) pa_nil)))) pa_nil))))))), ?_⟩
    refine ⟨_, rfl, a, _, rfl, .inr (SqT.of ha), _, rfl, _, _, rfl, rfl, _, rfl, ?_⟩
    rw [List.length_map]
    cases hl : decide (((xs.length : Nat) : Int) ≤ (m : Nat)) with
    | false =>
      refine iteF ?_
      have e : namsB xs m = false := by
        unfold namsB
        rw [decide_eq_false (by have := of_decide_eq_false hl; omega)]
        rfl
      have := q H (Kp.refl tb)
      rw [e] at this
      exact this
    | true =>
      have lm : xs.length ≤ m := by have := of_decide_eq_true hl; omega
      refine iteT ?_
      refine ⟨_, rfl, a, xs, rfl, SqT.of ha, by omega, ?_⟩
      cases ht : twB xs with
      | true =>
        have e : namsB xs m = false := by
          unfold namsB
          rw [ht, Bool.not_true, Bool.and_false, Bool.false_and]
        have := q H (Kp.refl tb)
        rw [e] at this
        exact ⟨_, rfl, _, rfl, this⟩
      | false =>
        have e : namsB xs m = xs.all nameB := by
          unfold namsB
          rw [ht, decide_eq_true lm]
          rfl
        refine ⟨_, rfl, _, rfl, ?_⟩
        refine iteT ?_
        refine ⟨_, rfl, a, rfl, ⟨_, SqT.of ha⟩, fun l nl => ?_⟩
        refine lc_it (walk_tup (K := K) (a := a) (xs := xs.map V.str)) (fun j H' => Kp PN H H' ∧ H' l = some (.lst (((xs.take j).map nameB).map V.bl))) ⟨knew tb nl, upd_same⟩ (fun i H' _ pv => SqT.of (kget tb pv.1 (fun _ z => by cases z) ha)) (fun j x H2 H3 hj pv y => ?_) (fun H2 pv => ?_)
        · obtain ⟨rfl, hx⟩ := y
          rw [List.getElem?_map, Option.map_eq_some_iff] at hx
          obtain ⟨z, hi, rfl⟩ := hx
          obtain ⟨s2, el⟩ := pv
          refine ⟨rfl, _, rfl, z, rfl, sm z (List.mem_of_getElem? hi), s2.1, fun H4 kp => ?_⟩
          have e4 := kget s2.1 kp (fun _ z => by cases z) el
          refine ⟨_, e4, ?_, kwr (ktrans s2 kp) nl e4, ?_⟩
          · rw [List.length_map, List.length_map, List.length_take]
            exact szlt (by omega)
          · rw [upd_same, List.take_add_one, hi, List.map_append, List.map_append]
            rfl
        · have lv : (xs.map V.str).length = xs.length := List.length_map _
          rw [lv, List.take_length] at pv
          refine ⟨l, xs.map nameB, rfl, SqL.of pv.2, ?_⟩
          have e2 : xs.all nameB = (xs.map nameB).all id := by
            rw [List.all_map]
            rfl
          have := q _ pv.1
          rw [e, e2] at this
          exact this
theorem ok_areE {f f1 : Addr} {fd fd1 : FuncData} (F : Fun K "are_entries" "are_entries" sAreE f fd) (T : Txt K mg) (T3 : Txt K mg) (TE : ∃ t, mg "ENTRIES_MOST" = some (.int 3 t))
    (FA : FO P w K mg base CX0 2 "are_names" ["texts", "most"] (spAreN K PN) f1 fd1) : FnOk P w K mg base CX0 3 f fd ["names"] (spAreE K PN) := by
  have sc := scAreE
  obtain ⟨t1, gEM⟩ := TE
  refine F.ok sc (fun vs H Q E h => ?_) (fun cdv A outer s H vs Q E hr h => ?_)
  · obtain ⟨a, xs, rfl, _⟩ := h
    rfl
  · obtain ⟨a, xs, rfl, ha, tb, sm, q⟩ := h
    refine ⟨_, (pss_one (ps_ret (pe_and (pe_cmpR op_gt (pe_callB call_len_seq (by rfl) T.len (by decide +kernel) (pa_cons (pv 0) pa_nil)) pe_int (nomark _)) (pe_one (pe_call FA.ok hr (by rfl) FA.m FA.kp FA.b .nil pass0 (pa_cons (pv 0) (pa_cons (pe_gint rfl gEM) pa_nil))))))), ?_⟩
    refine ⟨_, rfl, a, _, rfl, .inr (SqT.of ha), _, _, rfl, rfl, _, rfl, ?_⟩
    rw [List.length_map]
    cases hl : decide ((0 : Int) < (xs.length : Nat)) with
    | false =>
      refine iteF ?_
      have e : (decide (0 < xs.length) && namsB xs 3) = false := by
        rw [decide_eq_false (by have := of_decide_eq_false hl; omega)]
        rfl
      have := q H (Kp.refl tb)
      rw [e] at this
      exact this
    | true =>
      refine iteT ?_
      refine ⟨_, rfl, a, xs, 3, rfl, ha, by decide, tb, sm, fun H' k => ?_⟩
      have e : (decide (0 < xs.length) && namsB xs 3) = namsB xs 3 := by
        rw [decide_eq_true (by have := of_decide_eq_true hl; omega)]
        rfl
      have := q H' k
      rw [e] at this
      exact this
end
end K6

set_option maxRecDepth 100000
set_option maxHeartbeats 4000000
/-! ("..", x, y.replace(a, b)) -/
namespace L2
open PySem hiding Tok code
open PySem.Spec PyProof.Rows
section
variable {X : Cx} {es : List Expr} {t : TA}
/-- behind a written text the count of tokens isn't 0 -/
theorem pa_strT {x : Str} {j : Nat} {p : Pos} (hr : PAT X es t)
    (hs : starEach (.Constant (.str x) j p :: es) X.env = (false, eval (.Constant (.str x) j p) X.env) :: starEach es X.env := by rfl) : PA X (.Constant (.str x) j p :: es) (tCons (tC (.str x)) t) := by
  refine ⟨fun pos pins s σ H Q I h => ?_⟩
  rw [hs]
  show wpAny _ _ (spliced ((false, eval (.Constant (.str x) j p) X.env) :: backTo pos (starEach es X.env))) _ _ s
  refine Calls.spliced_cons (Calls.Constant_str ?_)
  exact thn (hr pos pins _ σ H _ (Nat.le_add_left 1 _) (I.tok _) h) fun us s2 ⟨xs, H2, I2, r2, q2⟩ => ⟨V.str x :: xs, H2, I2, .cons (show RelV (V.str x) _ from ⟨_, rfl⟩) r2, q2⟩
end
end L2

set_option maxRecDepth 100000
set_option maxHeartbeats 4000000
/-! text_of -/
namespace K6
open PySem hiding Tok code
open PySem.Spec PyProof.Rows GD K1
open L2 hiding rest
abbrev sTextOf : Stmt := topS 34
section
variable {P : Program} {w : World} {K : PySem.W.Frag} {mg : Str → Option Value} {base : Heap} {PN PV : Addr}
def spTextOf (PN : Addr) : L2.Sp := fun vs H Q _ => ∃ z : Str, vs = [.str z] ∧ z.length ≤ 5000 ∧ (Txt.partition z " ").1.length ≤ 5000 ∧ (Txt.partition z " ").2.2.length ≤ 5000 ∧ GxR.TabG H PN ∧
  (nameB (Txt.partition z " ").1 = false ∨ 600 < (Txt.partition z " ").2.2.length → ∀ H', Kp PN H H' → Q .non H') ∧
  (nameB (Txt.partition z " ").1 = true → (Txt.partition z " ").2.2.length ≤ 600 → ∀ H' r, Kp PN H H' → H' r = some (.tup [.str "text", .str (Txt.partition z " ").1, .str (Txt.replace (Txt.partition z " ").2.2 "|" "\n")]) → Q (.ref r) H')
theorem scTextOf : FnScope ["rest", "module", "_", "written"] ["rest"] (defScope sTextOf) := ⟨rfl, rfl, rfl, by decide +kernel, rfl, by decide +kernel, by decide +kernel⟩
theorem ok_textOf {f f1 : Addr} {fd fd1 : FuncData} (F : Fun K "text_of" "text_of" sTextOf f fd) (T : Txt K mg) (T3 : Txt K mg) (TM : ∃ t, mg "TEXT_MOST" = some (.int 600 t))
    (FN : FO P w K mg base CX0 1 "is_name" ["text"] (spName PN) f1 fd1) : FnOk P w K mg base CX0 2 f fd ["rest"] (spTextOf PN) := by
  have sc := scTextOf
  obtain ⟨t1, gTM⟩ := TM
  refine F.ok sc (fun vs H Q E h => ?_) (fun cdv A outer s H vs Q E hr h => ?_)
  · obtain ⟨z, rfl, _⟩ := h
    rfl
  · obtain ⟨z, rfl, hz, l1, l2, tb, q1, q2⟩ := h
    refine ⟨_, (pss_cons (ps_asg (pe_partition (pv 0) pe_str) (pg_tup rfl (pgs_cons (pg_name (i := 1) sc.nd rfl (Or.inl rfl)) (pgs_cons (pg_name (i := 2) sc.nd rfl (Or.inl rfl)) (pgs_cons (pg_name (i := 3) sc.nd rfl (Or.inl rfl)) pgs_nil)))))
      (pss_cons (ps_if (PW.pt (pw_or (pt_not (pt_val (pe_call FN.ok hr (by rfl) FN.m FN.kp FN.b .nil pass0 (pa_cons (pv 1) pa_nil)))) (pw_or1 (pt_cmpR op_gt (pe_callB call_len_str (by rfl) T.len (by decide +kernel) (pa_cons (pv 3) pa_nil)) (pe_gint rfl gTM) (nomark _)))))
      (pss_one (ps_ret pe_non))
      pss_nil)
      (pss_one (ps_ret (pe_tup (pa_strT (pat_cons (CwR.PET.of (pv 1)) (pat_cons (CwR.pet_replC (pv 3)) pat_nil)))))))), ?_⟩
    refine ⟨_, rfl, ⟨z, rfl⟩, z, _, rfl, rfl, by decide, szle hz, fun p np => ?_⟩
    refine ⟨p, _, rfl, SqT.of upd_same, rfl, ?_⟩
    refine ⟨_, _, rfl, _, _, rfl, _, _, rfl, rfl, ?_⟩
    refine ⟨_, rfl, _, rfl, l1, tab_same tb (Same.lst (Same.refl _) np), fun H1 k1 => ?_⟩
    have kk : Kp PN H H1 := ktrans (knew tb np) k1
    cases hn : nameB (Txt.partition z " ").1 with
    | false => exact ⟨_, rfl, q1 (.inl hn) _ kk⟩
    | true =>
      refine ⟨_, rfl, iteF ?_⟩
      refine ⟨_, rfl, _, rfl, szle l2, _, _, rfl, rfl, _, rfl, ite2 (fun h => ?_) (fun h => ?_)⟩
      · have h := of_decide_eq_true h
        exact q1 (.inr (by omega)) _ kk
      · have h6 : (Txt.partition z " ").2.2.length ≤ 600 := by
          have h7 : ¬ ((600 : Int) < ((Txt.partition z " ").2.2.length : Nat)) := fun x => h (decide_eq_true x)
          omega
        refine ⟨_, rfl, _, rfl, _, rfl, ?_, (show 3 ≤ sizeLine by decide), fun r nr => ?_⟩
        · have e1 : (Str.ofString "\n").length = 1 := rfl
          rw [e1]
          omega
        · exact q2 hn h6 _ r (ktrans kk (knew kk.1 nr)) upd_same
end
end K6

set_option maxRecDepth 100000
set_option maxHeartbeats 4000000
/-! _law_value_text -/
namespace K6
open PySem hiding Tok code
open PySem.Spec PyProof.Rows GD K1
open L2 hiding rest
section
variable {P : Program} {w : World} {K : PySem.W.Frag} {mg : Str → Option Value} {base : Heap}
theorem scLVT : FnScope ["value"] ["value"] (defScope sLVT) := ⟨rfl, rfl, rfl, by decide +kernel, rfl, by decide +kernel, by decide +kernel⟩
theorem ok_lvt {f : Addr} {fd : FuncData} (F : Fun K "_law_value_text" "_law_value_text" sLVT f fd) (T : Txt K mg) : FnOk P w K mg base CX0 1 f fd ["value"] spWVal := by
  have T3 := T
  have sc := scLVT
  refine F.ok sc (fun vs H Q E h => ?_) (fun cdv A outer s H vs Q E hr h => ?_)
  · obtain ⟨a, rfl, _⟩ := h
    rfl
  · obtain ⟨a, rfl, sm, q⟩ := h
    refine ⟨_, (pss_cons (ps_if (pt_val (pe_callB call_isi (by rfl) T3.isinstance (by decide +kernel) (pa_cons (pv 0) (pa_cons (pe_bltn (v := .ty "str") (by rfl) T3.bstr (by decide +kernel) rfl) pa_nil))))
      (pss_one (ps_ret (pe_op op_add_str (pe_op op_add_str pe_str (pv 0)) pe_str)))
      pss_nil)
      (pss_one (ps_ret (pe_callTy call_str_int (by rfl) T.bstr (by decide +kernel) (pa_cons (pv 0) pa_nil))))), ?_⟩
    cases a with
    | s z =>
      refine ⟨_, rfl, _, _, _, _, true, rfl, .ty _, .base (.str _), kit_ty (by decide +kernel), _, rfl, iteT ?_⟩
      have sz : z.length ≤ 5000 := sm
      have e1 : (Str.ofString "\"").length = 1 := rfl
      have e2 : (Str.ofString "\"" ++ z).length = 1 + z.length := by
        have e : z.cps.toList.length = z.length := Array.length_toList
        rw [show (Str.ofString "\"") = S [34] from rfl, ← e, ← S_of z, S_app, S_len, List.length_append]
        rfl
      refine ⟨_, rfl, _, _, rfl, rfl, ?_, _, _, rfl, rfl, ?_, q⟩
      · rw [e1]
        exact Nat.le_trans (m := 6000) (by omega) (by decide)
      · rw [e1, e2]
        exact Nat.le_trans (m := 6000) (by omega) (by decide)
    | i n =>
      refine ⟨_, rfl, _, _, _, _, false, rfl, .ty _, .base (.int _), kit_ty (by decide +kernel), _, rfl, iteF ?_⟩
      exact ⟨_, rfl, _, rfl, sm, q⟩
end
end K6

set_option maxRecDepth 100000
set_option maxHeartbeats 4000000
/-! are_arguments of a list, values_of -/
namespace K6
open PySem hiding Tok code
open PySem.Spec PyProof.Rows GD K1
open L2 hiding rest
abbrev sValsOf : Stmt := topS 37
section
variable {P : Program} {w : World} {K : PySem.W.Frag} {mg : Str → Option Value} {base : Heap} {PN PV : Addr}
def spAreAL (PN PV : Addr) : L2.Sp := fun vs H Q _ => ∃ (ar : Addr) (ad : List AV), vs = [.ref ar] ∧ H ar = some (.lst (ad.map aV)) ∧ T2 PN PV H ∧ (∀ x ∈ ad, aS x) ∧ ∀ H', ST PN PV H H' → Q (.bl (argsB ad)) H'
theorem scAreAL : FnScope ["values", "value"] ["values"] (defScope sAreA) := ⟨rfl, rfl, rfl, by decide +kernel, rfl, by decide +kernel, by decide +kernel⟩
theorem ok_areAL {f f1 : Addr} {fd fd1 : FuncData} (F : Fun K "are_arguments" "are_arguments" sAreA f fd) (T : Txt K mg) (T3 : Txt K mg) (TA : ∃ t, mg "ARGUMENTS_MOST" = some (.int 3 t)) (ne : PN ≠ PV)
    (FV : FO P w K mg base CX0 2 "is_value" ["value"] (spValue PV) f1 fd1) : FnOk P w K mg base CX0 3 f fd ["values"] (spAreAL PN PV) := by
  have sc := scAreAL
  obtain ⟨t1, gAM⟩ := TA
  refine F.ok sc (fun vs H Q E h => ?_) (fun cdv A outer s H vs Q E hr h => ?_)
  · obtain ⟨ar, ad, rfl, _⟩ := h
    rfl
  · obtain ⟨ar, ad, rfl, ha, t2, sm, q⟩ := h
    refine ⟨_, (pss_one (ps_ret (pe_and (pe_cmpR op_le (pe_callB call_len_seq (by rfl) T.len (by decide +kernel) (pa_cons (pv 0) pa_nil)) (pe_gint rfl gAM) (nomark _)) (pe_one (pe_callB (cr_all rfl) (by rfl) T3.all (by decide +kernel) (pa_cons (pe_lc (own := [("value", 1)]) rfl sc.nd (pi_list (pv 0)) (blkOk_by (own := [("value", 1)]) (N := ["values", "value"]) (sc := defScope sAreA) (by decide +kernel)) (fun _ _ _ _ _ => (pg_name (i := 1) sc.nd rfl (Or.inl rfl))) (fun _ _ _ _ _ => pts_nil) (fun _ _ _ _ _ => (pe_call FV.ok hr (by rfl) FV.m FV.kp FV.b .nil pass0 (pa_cons (pv 1) pa_nil)))) pa_nil)))))), ?_⟩
    refine ⟨_, rfl, ar, _, rfl, .inl (SqL.of ha), _, _, rfl, rfl, _, rfl, ?_⟩
    rw [List.length_map]
    cases hl : decide (((ad.length : Nat) : Int) ≤ 3) with
    | false =>
      refine iteF ?_
      have e : argsB ad = false := by
        unfold argsB
        rw [decide_eq_false (by have := of_decide_eq_false hl; omega)]
        rfl
      rw [← e]
      exact q _ (t2.st (Same.refl H))
    | true =>
      have l3 : ad.length ≤ 3 := by have := of_decide_eq_true hl; omega
      refine iteT ?_
      refine ⟨_, rfl, ar, rfl, ⟨_, SqL.of ha⟩, fun l nl => ?_⟩
      refine lc_it (walk_list (K := K) (a := ar) (xs := ad.map aV)) (fun j H' => ST PN PV H H' ∧ H' l = some (.lst (((ad.take j).map aB).map V.bl))) ⟨t2.st (Same.lst (Same.refl _) nl), upd_same⟩ (fun i H' _ pv => SqL.of (pv.1.k _ _ (fun _ z => by cases z) ha)) (fun j x H2 H3 hj pv y => ?_) (fun H2 pv => ?_)
      · obtain ⟨rfl, hx⟩ := y
        rw [List.getElem?_map, Option.map_eq_some_iff] at hx
        obtain ⟨a, hi, rfl⟩ := hx
        obtain ⟨s2, el⟩ := pv
        have fin : ∀ H4, ST PN PV H3 H4 → ∃ acc : List V, H4 l = some (.lst acc) ∧ acc.length < sizeLine ∧ ST PN PV H (upd H4 l (.lst (acc ++ [V.bl (aB a)]))) ∧ (upd H4 l (.lst (acc ++ [V.bl (aB a)]))) l = some (.lst (((ad.take (j + 1)).map aB).map V.bl)) := fun H4 s4 => by
          have e4 := s4.k _ _ (fun _ z => by cases z) el
          refine ⟨_, e4, ?_, (s2.trans s4).wr nl e4, ?_⟩
          · rw [List.length_map, List.length_map, List.length_take]
            exact szlt (by omega)
          · rw [upd_same, List.take_add_one, hi, List.map_append, List.map_append]
            rfl
        refine ⟨rfl, _, rfl, ?_⟩
        have sa := sm a (List.mem_of_getElem? hi)
        cases a with
        | s z => exact .inl ⟨z, rfl, sa, s2.t.v, fun H4 kp => fin H4 (s2.t.kpV ne kp)⟩
        | i n => exact .inr ⟨n, rfl, fin H3 (s2.t.st (Same.refl _))⟩
      · have lv : (ad.map aV).length = ad.length := List.length_map _
        rw [lv, List.take_length] at pv
        refine ⟨l, ad.map aB, rfl, SqL.of pv.2, ?_⟩
        have e : argsB ad = (ad.map aB).all id := by
          unfold argsB
          rw [decide_eq_true l3, Bool.true_and, List.all_map]
          rfl
        rw [← e]
        exact q _ pv.1

/-- the values of tokens, the sign ahead of the first one -/
def mkAV : Int → List K1.Tok → List AV
  | _, [] => []
  | g, .num n :: r => .i (g * n) :: mkAV 1 r
  | _, .str l :: r => .s (S l) :: mkAV 1 r
  | _, .word _ :: r => mkAV 1 r
  | _, .sign _ :: r => mkAV (-1) r
def sgnA : Int → List K1.Tok → Int
  | g, [] => g
  | _, .sign _ :: r => sgnA (-1) r
  | _, _ :: r => sgnA 1 r
theorem mkAV_app : ∀ (a : List K1.Tok) (g : Int) (b : List K1.Tok), mkAV g (a ++ b) = mkAV g a ++ mkAV (sgnA g a) b
  | [], _, _ => rfl
  | .num n :: r, g, b => by show _ :: mkAV 1 (r ++ b) = _; rw [mkAV_app r]; rfl
  | .str l :: r, g, b => by show _ :: mkAV 1 (r ++ b) = _; rw [mkAV_app r]; rfl
  | .word _ :: r, g, b => by show mkAV 1 (r ++ b) = _; rw [mkAV_app r]; rfl
  | .sign _ :: r, g, b => by show mkAV (-1) (r ++ b) = _; rw [mkAV_app r]; rfl
theorem sgnA_app : ∀ (a : List K1.Tok) (g : Int) (b : List K1.Tok), sgnA g (a ++ b) = sgnA (sgnA g a) b
  | [], _, _ => rfl
  | .num n :: r, g, b => sgnA_app r 1 b
  | .str l :: r, g, b => sgnA_app r 1 b
  | .word _ :: r, g, b => sgnA_app r 1 b
  | .sign _ :: r, g, b => sgnA_app r (-1) b
theorem sgnA_one : ∀ (a : List K1.Tok) (g : Int), g = 1 ∨ g = -1 → sgnA g a = 1 ∨ sgnA g a = -1
  | [], _, h => h
  | .num n :: r, g, _ => sgnA_one r 1 (.inl rfl)
  | .str l :: r, g, _ => sgnA_one r 1 (.inl rfl)
  | .word _ :: r, g, _ => sgnA_one r 1 (.inl rfl)
  | .sign _ :: r, g, _ => sgnA_one r (-1) (.inr rfl)
theorem mkAV_len : ∀ (a : List K1.Tok) (g : Int), (mkAV g a).length ≤ a.length
  | [], _ => Nat.le_refl _
  | .num n :: r, g => by have := mkAV_len r 1; show (mkAV 1 r).length + 1 ≤ r.length + 1; omega
  | .str l :: r, g => by have := mkAV_len r 1; show (mkAV 1 r).length + 1 ≤ r.length + 1; omega
  | .word _ :: r, g => by have := mkAV_len r 1; show (mkAV 1 r).length ≤ r.length + 1; omega
  | .sign _ :: r, g => by have := mkAV_len r (-1); show (mkAV (-1) r).length ≤ r.length + 1; omega
/-- what tokens of a line are like -/
def tokSm : K1.Tok → Prop
  | .num n => n < 100000
  | .str l => l.length ≤ 20
  | _ => True
theorem lexC_sm {c : Nat} {r : List Nat} {t : K1.Tok} {k : Nat} (h : lexC c r = some (t, k)) : tokSm t := by
  unfold lexC at h
  by_cases h1 : c ∈ LET
  · rw [if_pos h1] at h
    split at h
    · cases h
      exact trivial
    · cases h
  rw [if_neg h1] at h
  by_cases h2 : c ∈ DIG
  · rw [if_pos h2] at h
    split at h
    · rename_i h3
      cases h
      exact val_small (fun c hc => mem_run hc) (by rw [List.length_take]; omega)
    · cases h
  rw [if_neg h2] at h
  by_cases h3 : c = 34
  · rw [if_pos h3] at h
    split at h
    · rename_i hk
      cases h
      show (r.take _).length ≤ 20
      rw [List.length_take]
      omega
    · cases h
  rw [if_neg h3] at h
  split at h
  · cases h
    exact trivial
  · cases h
theorem lex_sm {l : List Nat} {o : Option (List K1.Tok)} (h : Lex l o) : ∀ ts, o = some ts → (∀ t ∈ ts, tokSm t) ∧ ts.length ≤ l.length := by
  induction h with
  | nil =>
    intro ts e
    cases e
    exact ⟨fun t h => (nomatch h), Nat.le_refl _⟩
  | sp _ ih => exact fun ts e => ⟨(ih ts e).1, Nat.le_succ_of_le (ih ts e).2⟩
  | bad _ _ => exact fun ts e => nomatch e
  | @tok c r t k o _ e h2 ih =>
    intro ts he
    cases o with
    | none => cases he
    | some x =>
      cases he
      obtain ⟨i1, i2⟩ := ih x rfl
      have kp := lexC_pos e
      rw [List.length_drop] at i2
      refine ⟨fun u hu => ?_, ?_⟩
      · rcases List.mem_cons.mp hu with rfl | hu
        · exact lexC_sm e
        · exact i1 u hu
      · have kl := lexC_le e
        show x.length + 1 ≤ _
        rw [List.length_cons] at i2 ⊢
        omega
theorem mkAV_sm : ∀ (a : List K1.Tok) (g : Int), (∀ t ∈ a, tokSm t) → ∀ x ∈ mkAV g a, aS x
  | [], _, _, _, h => by cases h
  | .num n :: r, g, hs, x, h => by
    rcases List.mem_cons.mp h with rfl | h
    · exact trivial
    · exact mkAV_sm r 1 (fun t ht => hs t (List.mem_cons_of_mem _ ht)) x h
  | .str l :: r, g, hs, x, h => by
    rcases List.mem_cons.mp h with rfl | h
    · have : l.length ≤ 20 := hs _ List.mem_cons_self
      show (S l).length ≤ 5000
      rw [S_len]
      omega
    · exact mkAV_sm r 1 (fun t ht => hs t (List.mem_cons_of_mem _ ht)) x h
  | .word _ :: r, g, hs, x, h => mkAV_sm r 1 (fun t ht => hs t (List.mem_cons_of_mem _ ht)) x h
  | .sign _ :: r, g, hs, x, h => mkAV_sm r (-1) (fun t ht => hs t (List.mem_cons_of_mem _ ht)) x h
structure TB (mg : Str → Option Value) : Prop where
  btuple : mg "tuple" = none
  bset : mg "set" = none
theorem tokL_len {H : Hp} {vs : List V} {ts : List K1.Tok} (h : TokL H vs ts) : ts.length = vs.length := by
  induction h with
  | nil => rfl
  | cons _ _ ih => rw [List.length_cons, List.length_cons, ih]
theorem tokL_get {H : Hp} {vs : List V} {ts : List K1.Tok} (h : TokL H vs ts) : ∀ {i : Nat} {x : V}, vs[i]? = some x → ∃ t, ts[i]? = some t ∧ ∃ q, x = .ref q ∧ H q = some (.tup (tokV t)) := by
  induction h with
  | nil => exact fun h => by simp at h
  | @cons a b l m r _ ih =>
    intro i x hx
    cases i with
    | zero => cases hx; exact ⟨b, rfl, r⟩
    | succ i => exact ih (i := i) hx
def spValsOf (PN PV : Addr) : L2.Sp := fun vs H Q _ => ∃ (L : List Nat) (o : Option (List K1.Tok)), vs = [.str (S L)] ∧ L.length ≤ 5000 ∧ T2 PN PV H ∧ Lex L o ∧
  ∀ H', ST PN PV H H' → ((o = none ∨ ∃ ts, o = some ts ∧ argsB (mkAV 1 ts) = false) → Q .non H') ∧
    ∀ ts r, o = some ts → argsB (mkAV 1 ts) = true → H' r = some (.tup ((mkAV 1 ts).map aV)) → Q (.ref r) H'
theorem scValsOf : FnScope ["text", "tokens", "values", "sign", "kind", "content"] ["text"] (defScope sValsOf) := ⟨rfl, rfl, rfl, by decide +kernel, rfl, by decide +kernel, by decide +kernel⟩
theorem ok_valsOf {f f1 f2 : Addr} {fd fd1 fd2 : FuncData} (F : Fun K "values_of" "values_of" sValsOf f fd) (T : Txt K mg) (T2 : TB mg) (ne : PN ≠ PV)
    (FS : FO P w K mg base CX0 5 "split" ["line"] (spSplit PV) f1 fd1) (FA : FO P w K mg base CX0 3 "are_arguments" ["values"] (spAreAL PN PV) f2 fd2) : FnOk P w K mg base CX0 6 f fd ["text"] (spValsOf PN PV) := by
  have sc := scValsOf
  have T3 := T
  refine F.ok sc (fun vs H Q E h => ?_) (fun cdv A outer s H vs Q E hr h => ?_)
  · obtain ⟨L, o, rfl, _⟩ := h
    rfl
  · obtain ⟨L, o, rfl, hl, t2, lx, q⟩ := h
    refine ⟨_, (pss_cons (ps_set (i := 1) sc.nd rfl (Or.inl rfl) (pe_call FS.ok hr (by rfl) FS.m FS.kp FS.b .nil pass0 (pa_cons (pv 0) pa_nil)))
      (pss_cons (ps_if (pt_cmpR op_isN (pv 1) pe_non (nomark _))
      (pss_one (ps_ret pe_non))
      pss_nil)
      (pss_cons (ps_set (i := 2) sc.nd rfl (Or.inl rfl) (pe_lst pa_nil))
      (pss_cons (ps_set (i := 3) sc.nd rfl (Or.inl rfl) pe_int)
      (pss_cons (ps_for PassesOwn.never rfl (pi_list (pv 1)) (pg_tup rfl (pgs_cons (pg_name (i := 4) sc.nd rfl (Or.inl rfl)) (pgs_cons (pg_name (i := 5) sc.nd rfl (Or.inl rfl)) pgs_nil)))
      (pss_cons (ps_if (pt_cmpR op_eq (pv 4) pe_str (nomark _))
      (pss_one (ps_expr (pe_bm PySem.F.plainAttrs_list PySem.F.slot_list_append PySem.F.type_list_append mt_append (pv 2) (pa_cons (pe_op op_mul (pv 3) (pv 5)) pa_nil))))
      (pss_one (ps_if (pt_cmpR op_eq (pv 4) pe_str (nomark _))
      (pss_one (ps_expr (pe_bm PySem.F.plainAttrs_list PySem.F.slot_list_append PySem.F.type_list_append mt_append (pv 2) (pa_cons (pv 5) pa_nil))))
      pss_nil)))
      (pss_one (ps_set (i := 3) sc.nd rfl (Or.inl rfl) (pe_ifExp (pt_cmpR op_eq (pv 4) pe_str (nomark _)) (pe_un un_neg pe_int) pe_int)))))
      (pss_one (ps_ret (pe_ifExp (pt_val (pe_call FA.ok (hr.mono (by decide)) (by rfl) FA.m FA.kp FA.b .nil pass0 (pa_cons (pv 2) pa_nil))) (pe_callTy call_tuple_of (by rfl) T2.btuple (by decide +kernel) (pa_cons (pv 2) pa_nil)) pe_non)))))))), ?_⟩
    refine ⟨_, rfl, L, o, rfl, hl, t2.v, lx, fun H1 k1 => ?_⟩
    have s1 := t2.kpV ne k1
    refine ⟨fun eo => ?_, fun ts D vs eo nD hD tl => ?_⟩
    · refine ⟨_, rfl, rfl, _, rfl, iteT ?_⟩
      exact (q _ s1).1 (.inl eo)
    refine ⟨_, rfl, rfl, _, rfl, iteF ?_⟩
    obtain ⟨tsm, tln⟩ := lex_sm lx ts eo
    have lvs := tokL_len tl
    refine ⟨Nat.zero_le _, fun D2 nV => ?_⟩
    have nV0 : H D2 = none := by
      cases e : H D2 with
      | none => rfl
      | some ob =>
        by_cases hp : D2 = PV
        · obtain ⟨ps, e1, _⟩ := k1.1
          rw [hp, e1] at nV
          cases nV
        · rw [k1.2 _ _ hp e] at nV
          cases nV
    have kD : D ≠ D2 := fun z => by rw [z, nV] at hD; cases hD
    refine ⟨_, rfl, D, rfl, ⟨_, SqL.of (by rw [upd_ne kD]; exact hD)⟩, for_list (K := K) (a := D) (xs := vs) (fun i σ H' => ∃ (y4 y5 : Option V), σ = [some (.str (S L)), some (.ref D), some (.ref D2), some (.int (sgnA 1 (ts.take i))), y4, y5] ∧ ST PN PV H1 H' ∧ H' D2 = some (.lst ((mkAV 1 (ts.take i)).map aV))) ⟨none, none, rfl, s1.t.st (Same.lst (Same.refl _) nV), upd_same⟩ (fun i σ H' _ hI => ?_) (fun i x σ H' hx hI => ?_) (fun σ H' hI => ?_)⟩
    · obtain ⟨y4, y5, rfl, s2, eV⟩ := hI
      exact SqL.of (s2.k _ _ (fun _ z => by cases z) hD)
    · obtain ⟨y4, y5, rfl, s2, eV⟩ := hI
      obtain ⟨t, ht, q0, rfl, hq0⟩ := tokL_get tl hx
      have e0 := s2.k _ _ (fun _ z => by cases z) hq0
      have tk : ts.take (i + 1) = ts.take i ++ [t] := by rw [List.take_add_one, ht]; rfl
      have sz : ((mkAV 1 (ts.take i)).map aV).length < sizeLine := by
        rw [List.length_map]
        have := mkAV_len (ts.take i) 1
        rw [List.length_take] at this
        exact szlt (by omega)
      have go : ∀ (a : AV), mkAV (sgnA 1 (ts.take i)) [t] = [a] → ST PN PV H1 (upd H' D2 (.lst ((mkAV 1 (ts.take i)).map aV ++ [aV a]))) ∧ (upd H' D2 (.lst ((mkAV 1 (ts.take i)).map aV ++ [aV a]))) D2 = some (.lst ((mkAV 1 (ts.take (i + 1))).map aV)) := fun a ha => by
        refine ⟨s2.wr nV eV, ?_⟩
        rw [upd_same, tk, mkAV_app, ha, List.map_append]
        rfl
      have go2 : mkAV (sgnA 1 (ts.take i)) [t] = [] → (mkAV 1 (ts.take (i + 1))) = mkAV 1 (ts.take i) := fun ha => by rw [tk, mkAV_app, ha, List.append_nil]
      refine ⟨q0, _, rfl, .inl (.inl e0), ?_⟩
      have tl1 : sgnA 1 (ts.take (i + 1)) = sgnA (sgnA 1 (ts.take i)) [t] := by rw [tk, sgnA_app]
      have s1' := sgnA_one (ts.take i) 1 (.inl rfl)
      cases t with
      | num n =>
        refine ⟨rfl, _, _, rfl, _, _, rfl, rfl, ?_⟩
        refine ⟨_, rfl, rfl, _, rfl, iteT ?_⟩
        refine ⟨_, rfl, .inl ⟨rfl, _, SqL.of eV⟩, ⟨_, rfl, _, rfl, _, _, rfl, rfl, .inl ⟨by omega, by omega⟩, D2, _, _, rfl, rfl, eV, sz, ?_⟩⟩
        obtain ⟨g1, g2⟩ := go (.i (sgnA 1 (ts.take i) * n)) rfl
        refine ⟨_, rfl, rfl, _, rfl, iteF ?_⟩
        exact ⟨_, _, by rw [tl1]; rfl, g1, g2⟩
      | str l =>
        refine ⟨rfl, _, _, rfl, _, _, rfl, rfl, ?_⟩
        refine ⟨_, rfl, rfl, _, rfl, iteF ?_⟩
        refine ⟨_, rfl, rfl, _, rfl, iteT ?_⟩
        refine ⟨_, rfl, .inl ⟨rfl, _, SqL.of eV⟩, _, rfl, D2, _, _, rfl, rfl, eV, sz, ?_⟩
        obtain ⟨g1, g2⟩ := go (.s (S l)) rfl
        refine ⟨_, rfl, rfl, _, rfl, iteF ?_⟩
        exact ⟨_, _, by rw [tl1]; rfl, g1, g2⟩
      | word l =>
        refine ⟨rfl, _, _, rfl, _, _, rfl, rfl, ?_⟩
        refine ⟨_, rfl, rfl, _, rfl, iteF ?_⟩
        refine ⟨_, rfl, rfl, _, rfl, iteF ?_⟩
        refine ⟨_, rfl, rfl, _, rfl, iteF ?_⟩
        exact ⟨_, _, by rw [tl1]; rfl, s2, by rw [go2 rfl]; exact eV⟩
      | sign c =>
        refine ⟨rfl, _, _, rfl, _, _, rfl, rfl, ?_⟩
        refine ⟨_, rfl, rfl, _, rfl, iteF ?_⟩
        refine ⟨_, rfl, rfl, _, rfl, iteF ?_⟩
        refine ⟨_, rfl, rfl, _, rfl, iteT ?_⟩
        exact ⟨_, rfl, _, _, by rw [tl1]; rfl, s2, by rw [go2 rfl]; exact eV⟩
    · obtain ⟨y4, y5, rfl, s2, eV⟩ := hI
      rw [← lvs, List.take_length] at eV
      refine ⟨_, rfl, D2, mkAV 1 ts, rfl, eV, s2.t, mkAV_sm ts 1 tsm, fun H2 s3 => ?_⟩
      have s4 := s1.trans (s2.trans s3)
      have eV2 := s3.k _ _ (fun _ z => by cases z) eV
      cases hb : argsB (mkAV 1 ts) with
      | false => exact ⟨_, rfl, iteF ((q _ s4).1 (.inr ⟨ts, eo, hb⟩))⟩
      | true =>
        refine ⟨_, rfl, iteT ?_⟩
        refine ⟨_, rfl, D2, _, rfl, .inl ⟨SqL.of eV2, fun l nl => ?_⟩⟩
        exact (q _ (s4.trans (s3.t.st (Same.lst (Same.refl _) nl)))).2 ts l eo hb upd_same
end
end K6

set_option maxRecDepth 100000
set_option maxHeartbeats 4000000
/-! splitting at one sign, as lists of signs; o[3] lifts the count of tokens -/
namespace L2
open PySem hiding Tok code
open PySem.Spec PyProof.Rows
section
variable {X : Cx} {es : List Expr} {t : TA} {r : R2} {a : Expr} {ta : TE}
/-- behind o[3] the count of tokens isn't 0 -/
theorem pa_ixT {i : Int} {j : Nat} {p pos : Pos} (hr : IxR X r) (ha : PE X a ta) (he : PAT X es t) (hs : PlainIx (.Constant (.int i) j p))
    (hst : starEach (.Subscript a (.Constant (.int i) j p) pos :: es) X.env = (false, eval (.Subscript a (.Constant (.int i) j p) pos) X.env) :: starEach es X.env := by rfl) :
    PA X (.Subscript a (.Constant (.int i) j p) pos :: es) (tCons (tOp r ta (tC (.int i))) t) := by
  refine ⟨fun pos' pins s σ H Q I h => ?_⟩
  rw [hst]
  show wpAny _ _ (spliced ((false, eval (.Subscript a (.Constant (.int i) j p) pos) X.env) :: backTo pos' (starEach es X.env))) _ _ s
  refine Calls.spliced_cons (Subscript_ (thn (ha.run pins s σ H _ I h) fun v s1 ⟨x, H1, I1, r1, q1⟩ => ?_))
  refine wpAny_Constant_int ?_
  refine wpAny_mono (PySem.wpAny_toks (hr a _ pins _ σ H1 x (.int i) v _ _ (I1.tok _) r1 ⟨_, rfl⟩ q1 (hs _ _))) (fun w s2 q => ?_) fun _ _ z => z.2
  obtain ⟨hk, y, H2, I2, r2, q2⟩ := q
  exact thn (he pos' pins s2 σ H2 _ (Nat.le_trans (Nat.le_add_left 1 _) hk) I2 q2) fun us s3 ⟨xs, H3, I3, r3, q3⟩ => ⟨y :: xs, H3, I3, .cons r2 r3, q3⟩
end
end L2
namespace K6
open PySem hiding Tok code
open PySem.Spec PyProof.Rows GD K1
open L2 hiding rest
open Builtin Builtin.Str StrLaws
/-- where the sign stands, at most so many times, the list beginning at the place cur -/
def occs (c : Nat) : Nat → List Nat → Nat → List Nat
  | _, [], _ => []
  | _, _ :: _, 0 => []
  | cur, d :: r, k + 1 => if d = c then cur :: occs c (cur + 1) r k else occs c (cur + 1) r (k + 1)
theorem occs_zero (c : Nat) : ∀ (cur : Nat) (l : List Nat), occs c cur l 0 = []
  | _, [] => rfl
  | _, _ :: _ => rfl
theorem occs_cons (c cur d : Nat) (r : List Nat) (k : Nat) : occs c cur (d :: r) (k + 1) = if d = c then cur :: occs c (cur + 1) r k else occs c (cur + 1) r (k + 1) := rfl
theorem occ_all (x : Str) (c lim : Nat) : ∀ (m cur : Nat) (fd : Array Nat) (free : Nat), free ≤ cur → cur + m = x.length + 1 →
    (forIn (List.range' cur m) (fd, free) (occBody x ⟨#[c]⟩ x.length lim)).run.fst.toList = fd.toList ++ occs c cur (x.cps.toList.drop cur) (lim - fd.size)
  | 0, cur, fd, free, h, e => by
    have xl : x.length = x.cps.toList.length := by show x.cps.size = _; simp
    rw [List.drop_of_length_le (by omega)]
    show fd.toList = fd.toList ++ occs c cur [] _
    unfold occs
    rw [List.append_nil]
  | m + 1, cur, fd, free, h, e => by
    have xl : x.length = x.cps.toList.length := by show x.cps.size = _; simp
    rw [List.range'_succ, List.forIn_cons]
    unfold occBody
    by_cases hc : x.cps.toList[cur]? = some c
    · have q := (subAt_one x c cur).mpr hc
      have lt := (List.getElem?_eq_some_iff.mp hc).1
      have ed : x.cps.toList.drop cur = c :: x.cps.toList.drop (cur + 1) := by
        rw [List.drop_eq_getElem_cons lt, (List.getElem?_eq_some_iff.mp hc).2]
      by_cases hs : fd.size < lim
      · rw [if_pos ⟨⟨⟨hs, h⟩, q.1⟩, q.2⟩]
        obtain ⟨k, hk⟩ : ∃ k, lim - fd.size = k + 1 := ⟨lim - fd.size - 1, by omega⟩
        have ih := occ_all x c lim m (cur + 1) (fd.push cur) (cur + 1) (Nat.le_refl _) (by omega)
        refine Eq.trans ih ?_
        rw [ed, hk, occs_cons, if_pos rfl, Array.toList_push, Array.size_push, List.append_assoc]
        have e2 : lim - (fd.size + 1) = k := by omega
        rw [e2]
        rfl
      · rw [if_neg (fun z => hs z.1.1.1)]
        have ih := occ_all x c lim m (cur + 1) fd free (by omega) (by omega)
        refine Eq.trans ih ?_
        have e2 : lim - fd.size = 0 := by omega
        rw [e2, occs_zero, occs_zero]
    · rw [if_neg (fun z => hc ((subAt_one x c cur).mp ⟨z.1.2, z.2⟩))]
      have ih := occ_all x c lim m (cur + 1) fd free (by omega) (by omega)
      refine Eq.trans ih ?_
      by_cases lt : cur < x.cps.toList.length
      · rw [List.drop_eq_getElem_cons lt]
        have nc : x.cps.toList[cur] ≠ c := fun z => hc (by rw [List.getElem?_eq_getElem lt, z])
        cases hk : lim - fd.size with
        | zero => rw [occs_zero, occs_zero]
        | succ k =>
          rw [occs_cons, if_neg nc]
      · rw [List.drop_of_length_le (by omega), List.drop_of_length_le (by omega)]
        rfl
theorem occ_one (x : Str) (c lim : Nat) : occurrences x ⟨#[c]⟩ 0 x.length lim = occs c 0 x.cps.toList lim := by
  rw [occ_eq]
  have := occ_all x c lim (x.length + 1 - 0) 0 #[] 0 (Nat.le_refl _) (by omega)
  rw [List.drop_zero] at this
  exact this
/-- cut at the sign, at most so many times -/
def spl (c : Nat) : Nat → List Nat → List Nat → List (List Nat)
  | _, [], acc => [acc]
  | 0, d :: r, acc => [acc ++ d :: r]
  | k + 1, d :: r, acc => if d = c then acc :: spl c k r [] else spl c (k + 1) r (acc ++ [d])
theorem sub_list (L : List Nat) (a b : Nat) : strSub (S L) a b = S ((L.drop a).take (b - a)) := by
  apply Str.ext'
  apply Array.toList_inj.mp
  rw [strSub_toList]
  rfl
theorem parts_spl (L : List Nat) (c : Nat) : ∀ (r : List Nat) (k a : Nat) (acc : List Nat), L.drop a = acc ++ r →
    partsFrom (S L) 1 a (occs c (a + acc.length) r k) = (spl c k r acc).map S
  | [], k, a, acc, h => by
    unfold occs spl
    show [strSub (S L) a (S L).length] = [S acc]
    rw [sub_list, h, List.append_nil, S_len]
    have : acc.length = L.length - a := by rw [← List.length_drop, h, List.append_nil]
    rw [← this, List.take_length]
  | d :: r, 0, a, acc, h => by
    unfold occs spl
    show [strSub (S L) a (S L).length] = [S _]
    rw [sub_list, h, S_len]
    have : (acc ++ d :: r).length = L.length - a := by rw [← List.length_drop, h]
    rw [← this, List.take_length]
  | d :: r, k + 1, a, acc, h => by
    unfold occs spl
    by_cases hd : d = c
    · rw [if_pos hd, if_pos hd]
      have h2 : L.drop (a + acc.length + 1) = [] ++ r := by
        rw [Nat.add_assoc, ← List.drop_drop, h]
        rw [show acc ++ d :: r = (acc ++ [d]) ++ r by rw [List.append_assoc]; rfl]
        exact List.drop_left' (by rw [List.length_append]; rfl)
      have ih := parts_spl L c r k (a + acc.length + 1) [] h2
      show strSub (S L) a (a + acc.length) :: partsFrom (S L) 1 (a + acc.length + 1) _ = S acc :: _
      rw [List.length_nil, Nat.add_zero] at ih
      rw [ih, sub_list, h, show a + acc.length - a = acc.length by omega, List.take_left' rfl]
    · rw [if_neg hd, if_neg hd]
      have ih := parts_spl L c r (k + 1) a (acc ++ [d]) (by rw [h, List.append_assoc]; rfl)
      rw [List.length_append] at ih
      exact ih
theorem kind_one {L : List Nat} {c : Nat} (hc : c < 256) : decide (Builtin.Str.strKind (S L) < Builtin.Str.strKind ⟨#[c]⟩) = false := by
  refine decide_eq_false ?_
  have e : Builtin.Str.strKind ⟨#[c]⟩ = 1 := by
    unfold Builtin.Str.strKind
    rw [if_pos]
    simp [hc]
  rw [e]
  unfold Builtin.Str.strKind
  split
  · omega
  split <;> omega
theorem spl_nil_occ {c : Nat} : ∀ (r : List Nat) (k cur : Nat) (acc : List Nat), occs c cur r k = [] → spl c k r acc = [acc ++ r]
  | [], k, cur, acc, _ => by unfold spl; rw [List.append_nil]
  | d :: r, 0, cur, acc, _ => rfl
  | d :: r, k + 1, cur, acc, h => by
    unfold occs at h
    by_cases hd : d = c
    · rw [if_pos hd] at h
      cases h
    · rw [if_neg hd] at h
      unfold spl
      rw [if_neg hd, spl_nil_occ r (k + 1) (cur + 1) (acc ++ [d]) h, List.append_assoc]
      rfl
theorem splitMax_list (L : List Nat) {c : Nat} (hc : c < 256) (n : Nat) : Txt.splitMax (S L) ⟨#[c]⟩ (n : Nat) = (spl c n L []).map S := by
  unfold Txt.splitMax
  rw [kind_one hc, Bool.or_false]
  have el : limitOf (S L) (n : Nat) = n := by
    unfold limitOf
    rw [if_neg (by omega)]
    rfl
  by_cases h0 : (S L).length < (⟨#[c]⟩ : Str).length
  · rw [if_pos (decide_eq_true h0)]
    rw [S_len] at h0
    have : L = [] := List.length_eq_zero_iff.mp (by
      have : (⟨#[c]⟩ : Str).length = 1 := rfl
      omega)
    subst this
    cases n <;> rfl
  · rw [if_neg (fun z => h0 (of_decide_eq_true z)), el, occ_one]
    show (if (occs c 0 L n).isEmpty = true then _ else _) = _
    split
    · rename_i he
      rw [spl_nil_occ L n 0 [] (List.isEmpty_iff.mp he)]
      rfl
    · rw [partsBetween_eq]
      have := parts_spl L c L n 0 [] rfl
      rw [List.length_nil, Nat.add_zero] at this
      exact this
theorem split_list (L : List Nat) {c : Nat} (hc : c < 256) : Txt.split (S L) ⟨#[c]⟩ = (spl c (L.length + 1) L []).map S := by
  unfold Txt.split
  rw [kind_one hc, Bool.or_false, S_len]
  by_cases h0 : L.length < (⟨#[c]⟩ : Str).length
  · rw [if_pos (decide_eq_true h0)]
    have : L = [] := List.length_eq_zero_iff.mp (by
      have : (⟨#[c]⟩ : Str).length = 1 := rfl
      omega)
    subst this
    rfl
  · rw [if_neg (fun z => h0 (of_decide_eq_true z))]
    have e1 := occ_one (S L) c (L.length + 1)
    rw [S_len] at e1
    rw [e1]
    show (if (occs c 0 L (L.length + 1)).isEmpty = true then _ else _) = _
    split
    · rename_i he
      rw [spl_nil_occ L _ 0 [] (List.isEmpty_iff.mp he)]
      rfl
    · rw [partsBetween_eq]
      have := parts_spl L c L (L.length + 1) 0 [] rfl
      rw [List.length_nil, Nat.add_zero] at this
      exact this
/-- the parts before and behind the first sign -/
def parL (c : Nat) (L : List Nat) : List Nat × List Nat := match spl c 1 L [] with
  | [a, b] => (a, b)
  | _ => (L, [])
theorem spl_one (c : Nat) : ∀ (r acc : List Nat), spl c 1 r acc = if c ∈ r then [acc ++ r.takeWhile (· != c), r.drop ((r.takeWhile (· != c)).length + 1)] else [acc ++ r]
  | [], acc => by unfold spl; rw [if_neg (by simp), List.append_nil]
  | d :: r, acc => by
    unfold spl
    by_cases hd : d = c
    · subst hd
      rw [if_pos rfl, if_pos List.mem_cons_self, List.takeWhile_cons]
      simp only [bne_self_eq_false, Bool.false_eq_true, if_false, List.append_nil, List.length_nil, Nat.zero_add, List.drop_succ_cons, List.drop_zero]
      cases r <;> rfl
    · rw [if_neg hd, spl_one c r]
      by_cases hr : c ∈ r
      · rw [if_pos hr, if_pos (List.mem_cons_of_mem _ hr), List.takeWhile_cons, if_pos (by simpa using hd), List.append_assoc]
        rfl
      · rw [if_neg hr, if_neg (fun z => (List.mem_cons.mp z).elim (fun z => hd z.symm) hr), List.append_assoc]
        rfl
theorem partition_list (L : List Nat) {c : Nat} : (Txt.partition (S L) ⟨#[c]⟩).1 = S (parL c L).1 ∧ (Txt.partition (S L) ⟨#[c]⟩).2.2 = S (parL c L).2 := by
  have e := occ_one (S L) c 1
  have p := parts_spl L c L 1 0 [] rfl
  rw [List.length_nil, Nat.add_zero] at p
  unfold Txt.partition parL
  rw [e]
  rw [show (S L).cps.toList = L from rfl]
  cases ho : occs c 0 L 1 with
  | nil =>
    rw [spl_nil_occ L 1 0 [] ho]
    exact ⟨rfl, rfl⟩
  | cons i r =>
    have hr : r = [] := by
      have : ∀ (l : List Nat) (cur : Nat), ∀ i r, occs c cur l 1 = i :: r → r = [] := fun l => by
        induction l with
        | nil => exact fun cur i r h => by unfold occs at h; cases h
        | cons d l ih =>
          intro cur i r h
          unfold occs at h
          by_cases hd : d = c
          · rw [if_pos hd, occs_zero] at h
            cases h
            rfl
          · rw [if_neg hd] at h
            exact ih _ _ _ h
      exact this L 0 i r ho
    subst hr
    rw [ho] at p
    have p : [strSub (S L) 0 i, strSub (S L) (i + 1) (S L).length] = (spl c 1 L []).map S := p
    rcases hs : spl c 1 L [] with _ | ⟨a, _ | ⟨b, _ | ⟨d, m⟩⟩⟩
    · rw [hs] at p; exact absurd (congrArg List.length p) (by simp)
    · rw [hs] at p; exact absurd (congrArg List.length p) (by simp)
    · rw [hs] at p
      injection p with p1 p2
      injection p2 with p2 _
      exact ⟨p1, p2⟩
    · rw [hs] at p; exact absurd (congrArg List.length p) (by simp)
theorem repl_list (L : List Nat) (a b : Nat) : Txt.replace (S L) ⟨#[a]⟩ ⟨#[b]⟩ = S (L.map fun d => if d = a then b else d) := by
  apply Str.ext'
  apply Array.toList_inj.mp
  rw [replace_list (x := S L) (y := ⟨#[a]⟩) (z := ⟨#[b]⟩) (Nat.le_refl 1)]
  show replL [a] [b] L = L.map _
  induction L with
  | nil => exact replL_nil
  | cons d r ih =>
    by_cases hd : d = a
    · subst hd
      rw [replL_hit (by simp) rfl, List.map_cons, if_pos rfl]
      show [b] ++ replL _ _ r = _
      rw [ih]
      rfl
    · rw [replL_miss (by show ¬ [d] = [a]; simpa using hd), List.map_cons, if_neg hd, ih]
end K6

set_option maxRecDepth 100000
set_option maxHeartbeats 4000000
/-! records; write_record -/
namespace K6
open PySem hiding Tok code
open PySem.Spec PyProof.Rows GD K1
open L2 hiding rest
abbrev sWRec : Stmt := topS 30
theorem call_str_any {X : Cx} : CallR X (.type "str") (fun xs H Q => (∃ i, xs = [.int i] ∧ i.natAbs.log2 < 1920 ∧ Q (.str (toString i)) H) ∨ ∃ a, xs = [.str a] ∧ Q (.str a) H) := by
  intro pins s σ H xs us Q I r h
  exact h.elim (fun h => call_str_int pins s σ H xs us Q I r h) (fun h => SkE.call_str_str pins s σ H xs us Q I r h)
inductive Rec
  | ent (xs : List Str) | txt (m t : Str) | rem (m : Str) | upd (n : Nat) | call (h n : Nat) (m f : Str) (ad : List AV)
def recV (a : Addr) : Rec → List V
  | .ent _ => [.str "entries", .ref a]
  | .txt m t => [.str "text", .str m, .str t]
  | .rem m => [.str "remove", .str m]
  | .upd n => [.str "update", .int n]
  | .call h n m f _ => [.str "call", .int h, .int n, .str m, .str f, .ref a]
def recA : Rec → Option (List V)
  | .ent xs => some (xs.map V.str)
  | .call _ _ _ _ ad => some (ad.map aV)
  | _ => none
def RecAt (H : Hp) (r : Addr) (x : Rec) : Prop := ∃ a, H r = some (.tup (recV a x)) ∧ ∀ l, recA x = some l → H a = some (.tup l)
def partsR : Rec → List Str
  | .ent xs => "entries" :: xs
  | .txt m t => ["text", m, Txt.replace t "\n" "|"]
  | .rem m => ["remove", m]
  | .upd n => ["update", toString ((n : Nat) : Int)]
  | .call h n m f ad => "call" :: toString ((h : Nat) : Int) :: toString ((n : Nat) : Int) :: m :: f :: ad.map aT
def wR (x : Rec) : Str := Txt.join " " (partsR x)
/-- a record of small parts -/
def RecSm : Rec → Prop
  | .ent xs => xs.length ≤ 10 ∧ ∀ z ∈ xs, z.length ≤ 5000
  | .txt m t => m.length ≤ 5000 ∧ t.length ≤ 5000
  | .rem m => m.length ≤ 5000
  | .upd n => n < 100000
  | .call h n m f ad => h < 100000 ∧ n < 100000 ∧ m.length ≤ 5000 ∧ f.length ≤ 5000 ∧ ad.length ≤ 10 ∧ ∀ x ∈ ad, aZ x ∧ (aT x).length ≤ 10000
theorem swr {H H1 : Hp} {l : Addr} {xs : List V} {o : HO} (s : Same H H1) (nl : H l = none) (_e : H1 l = some (.lst xs)) : Same H (upd H1 l o) := fun q u e1 => by
  rw [upd_ne (fun z => by rw [z, nl] at e1; cases e1)]
  exact s q u e1
/-- what stands between the word and the end -/
def partsA : Rec → List AV
  | .ent xs => xs.map .s
  | .txt m t => [.s m, .s (Txt.replace t "\n" "|")]
  | .rem m => [.s m]
  | .upd n => [.i (n : Nat)]
  | .call h n m f ad => .i (h : Nat) :: .i (n : Nat) :: .s m :: .s f :: ad.map fun a => .s (aT a)
def sT : AV → Str
  | .i n => toString n
  | .s z => z
def wordR : Rec → Str
  | .ent _ => "entries"
  | .txt _ _ => "text"
  | .rem _ => "remove"
  | .upd _ => "update"
  | .call _ _ _ _ _ => "call"
theorem parts_eq (x : Rec) : partsR x = wordR x :: (partsA x).map sT := by
  cases x with
  | ent xs => show _ :: xs = _ :: List.map sT (xs.map AV.s); rw [List.map_map]; show _ = _ :: List.map (fun x => x) xs; rw [List.map_id']; rfl
  | txt m t => rfl
  | rem m => rfl
  | upd n => rfl
  | call h n m f ad => show _ :: _ :: _ :: _ :: _ :: ad.map aT = _ :: _ :: _ :: _ :: _ :: List.map sT (ad.map _); rw [List.map_map]; rfl
def aP : AV → Prop
  | .i n => n.natAbs.log2 < 1920 ∧ (toString n : Str).length ≤ 12000
  | .s z => z.length ≤ 12000
theorem gn {i : Nat} {v : V} {σ : L2.St} {H : Hp} {Q : L2.St → Hp → Prop} (h : Q (σ.set i (some v)) H) : gName i v σ H Q := h
theorem nxp {u b c : L2.St → Hp → Prop} {r : VK} {σ : L2.St} {H : Hp} (h : u σ H) : (⟨u, r, b, c⟩ : Ends).nx σ H := h
theorem seq_mid {A B : TS} {D : Ends} {σ : L2.St} {H : Hp} (M : L2.St → Hp → Prop) (h2 : ∀ σ' H', M σ' H' → B D σ' H') (h1 : (∀ σ' H', M σ' H' → B D σ' H') → tSeq A B D σ H) : tSeq A B D σ H := h1 h2
theorem numT_small {n : Nat} (h : n < 100000) : ((n : Nat) : Int).natAbs.log2 < 1920 ∧ (Str.ofString (toString ((n : Nat) : Int))).length ≤ 12000 := by
  refine ⟨log_small h, ?_⟩
  have := (numT_dig (show n ≤ 99999 by omega)).2.1
  have e : (numT n).length = (Str.ofString (toString ((n : Nat) : Int))).length := Array.length_toList
  omega
theorem partsA_sm (x : Rec) (h : RecSm x) : (∀ a ∈ partsA x, aP a) ∧ (partsA x).length ≤ 20 := by
  cases x with
  | ent xs =>
    refine ⟨fun a ha => ?_, by show (xs.map _).length ≤ 20; rw [List.length_map]; exact Nat.le_trans h.1 (by decide)⟩
    obtain ⟨z, hz, rfl⟩ := List.mem_map.mp ha
    exact Nat.le_trans (h.2 z hz) (by decide)
  | txt m t =>
    refine ⟨fun a ha => ?_, Nat.le_of_ble_eq_true rfl⟩
    have e1 : (Str.ofString "|").length = 1 := rfl
    have := TK.replace_len t "\n" "|"
    rcases List.mem_cons.mp ha with rfl | ha
    · exact Nat.le_trans h.1 (by decide)
    · rcases List.mem_cons.mp ha with rfl | ha
      · have h2 := h.2
        show (Txt.replace t "\n" "|").length ≤ 12000
        rw [e1] at this
        omega
      · cases ha
  | rem m =>
    refine ⟨fun a ha => ?_, Nat.le_of_ble_eq_true rfl⟩
    rw [List.mem_singleton.mp ha]
    exact Nat.le_trans (show m.length ≤ 5000 from h) (by decide)
  | upd n =>
    refine ⟨fun a ha => ?_, Nat.le_of_ble_eq_true rfl⟩
    rw [List.mem_singleton.mp ha]
    exact numT_small h
  | call hh n m f ad =>
    obtain ⟨h1, h2, h3, h4, h5, h6⟩ := h
    refine ⟨fun a ha => ?_, by show (ad.map _).length + 1 + 1 + 1 + 1 ≤ 20; rw [List.length_map]; omega⟩
    rcases List.mem_cons.mp ha with rfl | ha
    · exact numT_small h1
    rcases List.mem_cons.mp ha with rfl | ha
    · exact numT_small h2
    rcases List.mem_cons.mp ha with rfl | ha
    · exact Nat.le_trans h3 (by decide)
    rcases List.mem_cons.mp ha with rfl | ha
    · exact Nat.le_trans h4 (by decide)
    obtain ⟨z, hz, rfl⟩ := List.mem_map.mp ha
    exact Nat.le_trans (h6 z hz).2 (by decide)
theorem sum_le {B : Nat} : ∀ {l : List Nat}, (∀ x ∈ l, x ≤ B) → l.sum ≤ l.length * B
  | [], _ => Nat.zero_le _
  | a :: l, h => by
    have h1 := h a List.mem_cons_self
    have h2 := sum_le (l := l) fun x hx => h x (List.mem_cons_of_mem _ hx)
    rw [List.sum_cons, List.length_cons, Nat.add_mul]
    omega
section
variable {P : Program} {w : World} {K : PySem.W.Frag} {mg : Str → Option Value} {base : Heap} {PN PV : Addr}
def spWRec : L2.Sp := fun vs H Q _ => ∃ (r : Addr) (x : Rec), vs = [.ref r] ∧ RecAt H r x ∧ RecSm x ∧ ∀ H', Same H H' → Q (.str (wR x)) H'
theorem scWRec : FnScope ["record", "word", "parts", "value", "part"] ["record"] (defScope sWRec) := ⟨rfl, rfl, rfl, by decide +kernel, rfl, by decide +kernel, by decide +kernel⟩
theorem ok_wRec {f f1 : Addr} {fd fd1 : FuncData} (F : Fun K "write_record" "write_record" sWRec f fd) (T : Txt K mg)
    (FV : FO P w K mg base CX0 1 "write_value" ["value"] spWVal f1 fd1) : FnOk P w K mg base CX0 2 f fd ["record"] spWRec := by
  have sc := scWRec
  have T3 := T
  refine F.ok sc (fun vs H Q E h => ?_) (fun cdv A outer s H vs Q E hr h => ?_)
  · obtain ⟨r, x, rfl, _⟩ := h
    rfl
  · obtain ⟨r, x, rfl, hx, hs, q⟩ := h
    refine ⟨_, (pss_cons (ps_set (i := 1) sc.nd rfl (Or.inl rfl) (pe_ix ix_tup (pv 0) pe_int (fun _ _ => rfl)))
      (pss_cons (ps_if (pt_cmpR op_eq (pv 1) pe_str (nomark _))
      (pss_one (ps_set (i := 2) sc.nd rfl (Or.inl rfl) (pe_ix ix_tup (pv 0) pe_int (fun _ _ => rfl))))
      (pss_one (ps_if (pt_cmpR op_eq (pv 1) pe_str (nomark _))
      (pss_one (ps_set (i := 2) sc.nd rfl (Or.inl rfl) (pe_tup (pa_ixT ix_tup (pv 0) (pat_cons (CwR.pet_replC (pe_ix ix_tup (pv 0) pe_int (fun _ _ => rfl))) pat_nil) (fun _ _ => rfl)))))
      (pss_one (ps_if (pt_cmpR op_eq (pv 1) pe_str (nomark _))
      (pss_one (ps_set (i := 2) sc.nd rfl (Or.inl rfl) (pe_tup (StX.pa_star (pe_slice sl_tup (pv 0) (po_some pe_int) (po_some pe_int)) (StX.pa_star (pe_lc (own := [("value", 3)]) rfl sc.nd (pi_tup (pe_ix ix_tup (pv 0) pe_int (fun _ _ => rfl))) (blkOk_by (own := [("value", 3)]) (N := ["record", "word", "parts", "value", "part"]) (sc := defScope sWRec) (by decide +kernel)) (fun _ _ _ _ _ => (pg_name (i := 3) sc.nd rfl (Or.inl rfl))) (fun _ _ _ _ _ => pts_nil) (fun _ _ _ _ _ => (pe_call FV.ok hr (by rfl) FV.m FV.kp FV.b .nil pass0 (pa_cons (pv 3) pa_nil)))) pa_nil)))))
      (pss_one (ps_set (i := 2) sc.nd rfl (Or.inl rfl) (pe_slice sl_tup (pv 0) (po_some pe_int) po_none))))))))
      (pss_one (ps_ret (pe_join pe_str (pe_op op_cat (pe_lst (pa_cons (pv 1) pa_nil)) (pe_lc (own := [("part", 4)]) rfl sc.nd (pi_tup (pv 2)) (blkOk_by (own := [("part", 4)]) (N := ["record", "word", "parts", "value", "part"]) (sc := defScope sWRec) (by decide +kernel)) (fun _ _ _ _ _ => (pg_name (i := 4) sc.nd rfl (Or.inl rfl))) (fun _ _ _ _ _ => pts_nil) (fun _ _ _ _ _ => (pe_callTy call_str_any (by rfl) T.bstr (by decide +kernel) (pa_cons (pv 4) pa_nil)))))))))), ?_⟩
    obtain ⟨pa1, pa2⟩ := partsA_sm x hs
    obtain ⟨a, er, ea⟩ := hx
    have it : ∀ {H' : Hp} {i : Nat} {v : V}, Same H H' → (recV a x)[i]? = some v → SqT K H' r (recV a x) ∧ atI (recV a x) (i : Int) = some v := fun s e => ⟨SqT.of (s _ _ er), atI_nat e⟩
    have w0 : (recV a x)[0]? = some (.str (wordR x)) := by cases x <;> rfl
    refine ⟨_, rfl, r, _, _, _, rfl, rfl, (it (Same.refl _) w0).1, (it (Same.refl _) w0).2, ?_⟩
    refine gn ?_
    refine nxp ?_
    refine seq_mid (A := tIfS _ _ _) (fun σ' H' => ∃ (y3 y4 : Option V) (p : Addr), σ' = [some (.ref r), some (.str (wordR x)), some (.ref p), y3, y4] ∧ Same H H' ∧ H' p = some (.tup ((partsA x).map aV))) ?_ (fun mid => ?_)
    rotate_left
    · cases x with
      | ent xs =>
        refine ⟨_, rfl, rfl, _, rfl, iteT ?_⟩
        refine ⟨_, rfl, r, _, _, _, rfl, rfl, (it (Same.refl _) (i := 1) rfl).1, (it (Same.refl _) (i := 1) rfl).2, ?_⟩
        refine mid _ _ ⟨_, _, a, rfl, Same.refl _, ?_⟩
        rw [ea _ rfl]
        show _ = some (HO.tup ((xs.map AV.s).map aV))
        rw [List.map_map]
        rfl
      | txt m t =>
        refine ⟨_, rfl, rfl, _, rfl, iteF ?_⟩
        refine ⟨_, rfl, rfl, _, rfl, iteT ?_⟩
        refine ⟨_, rfl, r, _, _, _, rfl, rfl, (it (Same.refl _) (i := 1) rfl).1, (it (Same.refl _) (i := 1) rfl).2, ?_⟩
        refine ⟨_, rfl, r, _, _, _, rfl, rfl, (it (Same.refl _) (i := 2) rfl).1, (it (Same.refl _) (i := 2) rfl).2, t, rfl, ?_, two_le, fun p np => ?_⟩
        · have e1 : (Str.ofString "|").length = 1 := rfl
          have := hs.2
          rw [e1]
          omega
        · exact mid _ _ ⟨_, _, p, rfl, Same.lst (Same.refl _) np, upd_same⟩
      | rem m =>
        refine ⟨_, rfl, rfl, _, rfl, iteF ?_⟩
        refine ⟨_, rfl, rfl, _, rfl, iteF ?_⟩
        refine ⟨_, rfl, rfl, _, rfl, iteF ?_⟩
        refine ⟨_, rfl, 1, rfl, r, _, rfl, (it (Same.refl _) w0).1, (fun z => absurd (show (1 : Nat) = 0 from z.1) (by decide)), fun p np => ?_⟩
        exact mid _ _ ⟨_, _, p, rfl, Same.lst (Same.refl _) np, upd_same⟩
      | upd n =>
        refine ⟨_, rfl, rfl, _, rfl, iteF ?_⟩
        refine ⟨_, rfl, rfl, _, rfl, iteF ?_⟩
        refine ⟨_, rfl, rfl, _, rfl, iteF ?_⟩
        refine ⟨_, rfl, 1, rfl, r, _, rfl, (it (Same.refl _) w0).1, (fun z => absurd (show (1 : Nat) = 0 from z.1) (by decide)), fun p np => ?_⟩
        exact mid _ _ ⟨_, _, p, rfl, Same.lst (Same.refl _) np, upd_same⟩
      | call hh n m f ad =>
        refine ⟨_, rfl, rfl, _, rfl, iteF ?_⟩
        refine ⟨_, rfl, rfl, _, rfl, iteF ?_⟩
        refine ⟨_, rfl, rfl, _, rfl, iteT ?_⟩
        have e0 : H a = some (.tup (ad.map aV)) := ea _ rfl
        refine ⟨_, rfl, 1, rfl, 5, rfl, r, _, rfl, (it (Same.refl _) w0).1, (fun z => absurd (show (1 : Nat) = 0 from z.1) (by decide)), fun q1 nq1 => ?_⟩
        have s1 : Same H (upd H q1 (.tup (cutV (recV a (.call hh n m f ad)) (some 1) (some 5)))) := Same.lst (Same.refl _) nq1
        have e1 : (upd H q1 (.tup (cutV (recV a (.call hh n m f ad)) (some 1) (some 5)))) q1 = some (.tup [.int hh, .int n, .str m, .str f]) := upd_same
        generalize (upd H q1 (.tup (cutV (recV a (.call hh n m f ad)) (some 1) (some 5)))) = H1 at *
        refine ⟨_, _, rfl, .inl (SqT.of e1), _, rfl, r, _, _, _, rfl, rfl, (it s1 (i := 5) rfl).1, (it s1 (i := 5) rfl).2, a, rfl, ⟨_, SqT.of (s1 _ _ e0)⟩, fun l nl => ?_⟩
        refine lc_it (walk_tup (K := K) (a := a) (xs := ad.map aV)) (fun j H' => Same H1 H' ∧ H' l = some (.lst (((ad.take j).map aT).map V.str))) ⟨Same.lst (Same.refl _) nl, upd_same⟩ (fun i H' _ pv => SqT.of (strans s1 pv.1 _ _ e0)) (fun j x H2 H3 hj pv y => ?_) (fun H2 pv => ?_)
        · obtain ⟨rfl, hx⟩ := y
          rw [List.getElem?_map, Option.map_eq_some_iff] at hx
          obtain ⟨z, hi, rfl⟩ := hx
          obtain ⟨s2, el⟩ := pv
          obtain ⟨h1, h2, h3, h4, h5, h6⟩ := hs
          refine ⟨rfl, _, rfl, z, rfl, (h6 z (List.mem_of_getElem? hi)).1, _, el, ?_, swr s2 nl el, ?_⟩
          · rw [List.length_map, List.length_map, List.length_take]
            exact szlt (by omega)
          · rw [upd_same, List.take_add_one, hi, List.map_append, List.map_append]
            rfl
        · have lv : (ad.map aV).length = ad.length := List.length_map _
          rw [lv, List.take_length] at pv
          obtain ⟨s2, el⟩ := pv
          refine ⟨l, _, rfl, .inr (SqL.of el), ?_, fun t nt => ?_⟩
          · simp only [List.length_append, List.length_map, List.length_cons, List.length_nil]
            have := hs.2.2.2.2.1
            exact szle (by omega)
          · refine mid _ _ ⟨_, _, t, rfl, snew (strans s1 s2) nt, ?_⟩
            rw [upd_same, List.append_nil]
            show some (HO.tup (V.int hh :: V.int n :: V.str m :: V.str f :: (ad.map aT).map V.str)) = some (HO.tup (V.int hh :: V.int n :: V.str m :: V.str f :: (ad.map fun a => AV.s (aT a)).map aV))
            rw [List.map_map, List.map_map]
            rfl
    rintro σ' H1 ⟨y3, y4, p, rfl, s1, ep⟩
    have lp : ((partsA x).map aV).length = (partsA x).length := List.length_map _
    refine ⟨⟨_, rfl⟩, _, rfl, (show 1 ≤ sizeLine by decide), fun l1 nl1 => ?_⟩
    have s2 := snew (o := .lst [.str (wordR x)]) s1 nl1
    have el1 : upd H1 l1 (.lst [.str (wordR x)]) l1 = some (.lst [.str (wordR x)]) := upd_same
    have ep2 : upd H1 l1 (.lst [.str (wordR x)]) p = some (.tup ((partsA x).map aV)) := by
      rw [upd_ne (ne_of_none ep nl1)]
      exact ep
    generalize upd H1 l1 (.lst [.str (wordR x)]) = H2 at *
    refine ⟨_, rfl, p, rfl, ⟨_, SqT.of ep2⟩, fun l nl => ?_⟩
    refine lc_it (walk_tup (K := K) (a := p) (xs := (partsA x).map aV)) (fun j H' => Same H2 H' ∧ H' l = some (.lst ((((partsA x).take j).map sT).map V.str))) ⟨Same.lst (Same.refl _) nl, upd_same⟩ (fun i H' _ pv => SqT.of (pv.1 _ _ ep2)) (fun j v H3 H4 hj pv y => ?_) (fun H3 pv => ?_)
    · obtain ⟨rfl, hv⟩ := y
      rw [List.getElem?_map, Option.map_eq_some_iff] at hv
      obtain ⟨z, hi, rfl⟩ := hv
      obtain ⟨s3, el⟩ := pv
      have pz := pa1 z (List.mem_of_getElem? hi)
      have fin : ∃ acc, H4 l = some (.lst acc) ∧ acc.length < sizeLine ∧ Same H2 (upd H4 l (.lst (acc ++ [V.str (sT z)]))) ∧ upd H4 l (.lst (acc ++ [V.str (sT z)])) l = some (.lst ((((partsA x).take (j + 1)).map sT).map V.str)) := by
        refine ⟨_, el, ?_, swr s3 nl el, ?_⟩
        · rw [List.length_map, List.length_map, List.length_take]
          exact szlt (by omega)
        · rw [upd_same, List.take_add_one, hi, List.map_append, List.map_append]
          rfl
      refine ⟨rfl, _, rfl, ?_⟩
      cases z with
      | i n => exact .inl ⟨n, rfl, pz.1, fin⟩
      | s z => exact .inr ⟨z, rfl, fin⟩
    · rw [lp, List.take_length] at pv
      obtain ⟨s3, el⟩ := pv
      refine ⟨l1, l, _, _, rfl, rfl, s3 _ _ el1, el, ?_, fun t nt => ?_⟩
      · rw [List.length_map, List.length_map]
        exact szle (by show 1 + _ ≤ 5000; omega)
      · refine ⟨_, t, partsR x, rfl, rfl, .inl (SqL.of (xs := (partsR x).map V.str) ?_), ?_, q _ (snew (strans s2 s3) nt)⟩
        · rw [upd_same, parts_eq]
          rfl
        · have sm : ((partsR x).map (·.length)).sum ≤ 21 * 12000 := by
            refine Nat.le_trans (sum_le (B := 12000) fun k hk => ?_) ?_
            · obtain ⟨z, hz, rfl⟩ := List.mem_map.mp hk
              rw [parts_eq] at hz
              rcases List.mem_cons.mp hz with rfl | hz
              · cases x <;> exact Nat.le_of_ble_eq_true rfl
              · obtain ⟨a, ha, rfl⟩ := List.mem_map.mp hz
                have := pa1 a ha
                cases a with
                | i n => exact this.2
                | s z => exact this
            · rw [List.length_map, parts_eq, List.length_cons, List.length_map]
              exact Nat.mul_le_mul_right _ (by omega)
          have e1 : (Str.ofString " ").length = 1 := rfl
          rw [e1]
          have : (partsR x).length ≤ 21 := by
            rw [parts_eq, List.length_cons, List.length_map]
            omega
          omega
end
end K6

set_option maxRecDepth 100000
set_option maxHeartbeats 4000000
/-! data in tuples; what is showable -/
namespace K6
open PySem hiding Tok code
open PySem.Spec PyProof.Rows GD K1
open L2 hiding rest
mutual
inductive TD (H : Hp) : V → PyData → Prop
  | int (i : Int) : TD H (.int i) (.int i)
  | str (x : Str) : TD H (.str x) (.str x)
  | tup {a : Addr} {xs : List V} {ds : List PyData} : H a = some (.tup xs) → TDs H xs ds → TD H (.ref a) (.tuple ds)
inductive TDs (H : Hp) : List V → List PyData → Prop
  | nil : TDs H [] []
  | cons {v : V} {vs : List V} {d : PyData} {ds : List PyData} : TD H v d → TDs H vs ds → TDs H (v :: vs) (d :: ds)
end
/-- tuples stay -/
def KT (H H' : Hp) : Prop := ∀ q xs, H q = some (.tup xs) → H' q = some (.tup xs)
mutual
theorem TD.up {H H' : Hp} (k : KT H H') : ∀ {v : V} {d : PyData}, TD H v d → TD H' v d
  | _, _, .int i => .int i
  | _, _, .str x => .str x
  | _, _, .tup e t => .tup (k _ _ e) (TDs.up k t)
theorem TDs.up {H H' : Hp} (k : KT H H') : ∀ {vs : List V} {ds : List PyData}, TDs H vs ds → TDs H' vs ds
  | _, _, .nil => .nil
  | _, _, .cons a b => .cons (TD.up k a) (TDs.up k b)
end
mutual
theorem TD.dp {K : PySem.W.Frag} {H : Hp} : ∀ {v : V} {d : PyData}, TD H v d → Dp K H v d
  | _, _, .int i => .int i
  | _, _, .str x => .str x
  | _, _, .tup e t => .tup (SqT.of e) (TDs.dp t)
theorem TDs.dp {K : PySem.W.Frag} {H : Hp} : ∀ {vs : List V} {ds : List PyData}, TDs H vs ds → DpAll K H vs ds
  | _, _, .nil => .nil
  | _, _, .cons a b => .cons (TD.dp a) (TDs.dp b)
end
theorem TDs.app {H : Hp} : ∀ {vs us : List V} {ds es : List PyData}, TDs H vs ds → TDs H us es → TDs H (vs ++ us) (ds ++ es)
  | _, _, _, _, .nil, b => b
  | _, _, _, _, .cons a r, b => .cons a (TDs.app r b)
theorem TDs.len {H : Hp} : ∀ {vs : List V} {ds : List PyData}, TDs H vs ds → vs.length = ds.length
  | _, _, .nil => rfl
  | _, _, .cons _ r => by rw [List.length_cons, List.length_cons, TDs.len r]
theorem pair_imp {α β : Type} {R R' : α → β → Prop} {l : List α} {m : List β} (h : Paired R l m) (k : ∀ a b, R a b → R' a b) : Paired R' l m := by
  induction h with
  | nil => exact .nil
  | cons a _ ih => exact .cons (k _ _ a) ih
theorem pair_len {α β : Type} {R : α → β → Prop} {l : List α} {m : List β} (h : Paired R l m) : l.length = m.length := by
  induction h with
  | nil => rfl
  | cons _ _ ih => rw [List.length_cons, List.length_cons, ih]
theorem pair_snoc {α β : Type} {R : α → β → Prop} {l : List α} {m : List β} {a : α} {b : β} (h : Paired R l m) (k : R a b) : Paired R (l ++ [a]) (m ++ [b]) := by
  induction h with
  | nil => exact .cons k .nil
  | cons a _ ih => exact .cons a ih
theorem iteE {c : Bool} {A B : Prop} (h : c = false) (x : B) : if c = true then A else B := by
  rw [h]
  exact iteF x
theorem iteY {c : Bool} {A B : Prop} (h : c = true) (x : A) : if c = true then A else B := by
  rw [h]
  exact iteT x
def aD : AV → PyData
  | .i n => .int n
  | .s z => .str z
theorem aD_td {H : Hp} : ∀ ad : List AV, TDs H (ad.map aV) (ad.map aD)
  | [] => .nil
  | .i n :: r => .cons (.int n) (aD_td r)
  | .s z :: r => .cons (.str z) (aD_td r)
structure Fit (d : PyData) (k B : Nat) : Prop where
  sh : d.showable = true
  nd : d.hasDict = false
  dp : d.depth ≤ k
  ln : d.shown.length ≤ B
  cl : d.canLay0 = true
theorem Fit.more {d : PyData} {k B k' B' : Nat} (f : Fit d k B) (h1 : k ≤ k') (h2 : B ≤ B') : Fit d k' B' := ⟨f.sh, f.nd, Nat.le_trans f.dp h1, Nat.le_trans f.ln h2, f.cl⟩
theorem Fit.str {z : Str} {n : Nat} (h1 : z.length ≤ n) (h2 : ∀ c ∈ z.cps.toList, c < 1000) : Fit (.str z) 0 (10 * n + 2) := by
  refine ⟨by simp only [PyData.showable], by simp only [PyData.hasDict], by simp only [PyData.depth]; omega, ?_, ?_⟩
  · simp only [PyData.shown]
    have := StrLaws.reprText_len z fun c hc => Nat.lt_trans (h2 c hc) (by decide)
    omega
  · simp only [PyData.canLay0]
    unfold PyData.strOk
    rw [Array.all_eq_true]
    intro i hi
    exact decide_eq_true (Nat.lt_trans (h2 _ (by
      have : z.cps[i] ∈ z.cps := Array.getElem_mem hi
      exact Array.mem_toList_iff.mpr this)) (by decide))
theorem Fit.strS {l : List Nat} {n : Nat} (h1 : l.length ≤ n) (h2 : ∀ c ∈ l, c < 1000) : Fit (.str (S l)) 0 (10 * n + 2) := Fit.str (by rw [S_len]; exact h1) h2
theorem Fit.num {n : Nat} (h : n ≤ 99999) : Fit (.int (n : Nat)) 0 5 := by
  refine ⟨?_, by simp only [PyData.hasDict], by simp only [PyData.depth]; omega, ?_, by simp only [PyData.canLay0]⟩
  · simp only [PyData.showable]
    exact decide_eq_true (log_small (by omega))
  · simp only [PyData.shown]
    have := (numT_dig h).2.1
    have e : (Str.ofString (toString ((n : Nat) : Int))).length = (numT n).length := by
      show (Str.ofString (toString ((n : Nat) : Int))).cps.size = _
      unfold numT
      simp
    rw [← e] at this
    exact this
theorem Fit.bool (b : Bool) : Fit (.bool b) 0 5 := by
  refine ⟨by simp only [PyData.showable], by simp only [PyData.hasDict], by simp only [PyData.depth]; omega, ?_, by simp only [PyData.canLay0]⟩
  cases b <;> simp only [PyData.shown] <;> decide
theorem Fit.none : Fit .none 0 5 := by
  refine ⟨by simp only [PyData.showable], by simp only [PyData.hasDict], by simp only [PyData.depth]; omega, ?_, by simp only [PyData.canLay0]⟩
  simp only [PyData.shown]; decide
structure FitA (ds : List PyData) (k B : Nat) : Prop where
  sh : PyData.showableAll ds = true
  nd : PyData.hasDictAll ds = false
  dp : PyData.depthAll ds ≤ k
  ln : ∀ x ∈ PyData.shownAll ds, x.length ≤ B
  le : (PyData.shownAll ds).length = ds.length
  cl : PyData.canLayAll0 ds = true
theorem FitA.of {k B : Nat} : ∀ {ds : List PyData}, (∀ d ∈ ds, Fit d k B) → FitA ds k B
  | [], _ => ⟨rfl, rfl, Nat.zero_le _, fun x hx => (by cases hx), rfl, rfl⟩
  | d :: ds, h => by
    have f := h d List.mem_cons_self
    have r := FitA.of (ds := ds) fun x hx => h x (List.mem_cons_of_mem _ hx)
    refine ⟨?_, ?_, ?_, fun x hx => ?_, ?_, ?_⟩
    · show (PyData.showable d && PyData.showableAll ds) = true
      rw [f.sh, r.sh]; rfl
    · show (PyData.hasDict d || PyData.hasDictAll ds) = false
      rw [f.nd, r.nd]; rfl
    · show max (PyData.depth d) (PyData.depthAll ds) ≤ k
      have := f.dp; have := r.dp; omega
    · rcases List.mem_cons.mp hx with rfl | hx
      · exact f.ln
      · exact r.ln x hx
    · show (PyData.shownAll ds).length + 1 = ds.length + 1
      rw [r.le]
    · show (PyData.canLay0 d && PyData.canLayAll0 ds) = true
      rw [f.cl, r.cl]; rfl
theorem textFrom_up2 : ∀ (ts : List Str) (k : Nat) (acc : Str) (B : Nat), (∀ t ∈ ts, t.length ≤ B) → (textFrom k acc ts).length ≤ acc.length + ts.length * (B + 2)
  | [], k, acc, B, _ => by
    show acc.length ≤ _
    omega
  | t :: ts, k, acc, B, h => by
    have ih := textFrom_up2 ts (k + 1) (acc ++ (if k > 0 then ", " else "" : String) ++ t) B (fun x hx => h x (List.mem_cons_of_mem _ hx))
    have ht := h t List.mem_cons_self
    have e : (acc ++ (if k > 0 then ", " else "" : String) ++ t).length ≤ acc.length + 2 + t.length := by
      rw [strLen_append, strLen_append]
      have : ((if k > 0 then ", " else "" : String) : Str).length ≤ 2 := by split <;> decide
      omega
    show (textFrom (k + 1) (acc ++ (if k > 0 then ", " else "" : String) ++ t) ts).length ≤ acc.length + (ts.length + 1) * (B + 2)
    rw [Nat.add_mul]
    omega
theorem Fit.list {ds : List PyData} {k B : Nat} (h : ∀ d ∈ ds, Fit d k B) : Fit (.list ds) (k + 1) (ds.length * (B + 2) + 4) := by
  have r := FitA.of h
  refine ⟨by simpa only [PyData.showable] using r.sh, by simpa only [PyData.hasDict] using r.nd, by simp only [PyData.depth]; have := r.dp; omega, ?_, by simpa only [PyData.canLay0] using r.cl⟩
  simp only [PyData.shown]
  unfold listText
  rw [strLen_append]
  have := textFrom_up2 (PyData.shownAll ds) 0 "[" B r.ln
  rw [r.le] at this
  have e1 : (("[" : String) : Str).length = 1 := rfl
  have e2 : (("]" : String) : Str).length = 1 := rfl
  rw [e1] at this
  rw [e2]
  omega
theorem piled_le {B : Nat} : ∀ {ts : List Str}, (∀ t ∈ ts, t.length ≤ B) → piled ts ≤ ts.length * (B + 2)
  | [], _ => Nat.zero_le _
  | t :: ts, h => by
    have h1 := h t List.mem_cons_self
    have h2 := piled_le (ts := ts) fun x hx => h x (List.mem_cons_of_mem _ hx)
    have e : piled (t :: ts) = t.length + 2 + piled ts := by simp [piled]
    rw [e, List.length_cons, Nat.succ_mul]
    omega
theorem Fit.tup {ds : List PyData} {k B : Nat} (h : ∀ d ∈ ds, Fit d k B) : Fit (.tuple ds) (k + 1) (ds.length * (B + 2) + 4) := by
  have r := FitA.of h
  refine ⟨by simpa only [PyData.showable] using r.sh, by simpa only [PyData.hasDict] using r.nd, by simp only [PyData.depth]; have := r.dp; omega, ?_, by simpa only [PyData.canLay0] using r.cl⟩
  simp only [PyData.shown]
  unfold tupleText
  rw [strLen_append, strLen_append]
  have e1 : (("(" : String) : Str).length = 1 := rfl
  have e2 : ((if (PyData.shownAll ds).length == 1 then ",)" else ")" : String) : Str).length ≤ 2 := by split <;> decide
  have e3 : (Str.join ", " (PyData.shownAll ds)).length ≤ ds.length * (B + 2) := by
    by_cases z : PyData.shownAll ds = []
    · rw [z]; exact Nat.zero_le _
    · have := join_length_add _ z
      have := piled_le r.ln
      rw [r.le] at this
      omega
  omega
end K6

set_option maxRecDepth 100000
set_option maxHeartbeats 4000000
/-! what is read of a text, as a function -/
namespace K6
open PySem hiding Tok code
open PySem.Spec PyProof.Rows GD K1
open L2 hiding rest
def lexF : Nat → List Nat → Option (List K1.Tok)
  | 0, _ => some []
  | _ + 1, [] => some []
  | n + 1, c :: r => if c = 32 then lexF n r else match lexC c r with
    | none => none
    | some (t, k) => (lexF n ((c :: r).drop k)).map (t :: ·)
theorem lexF_ok : ∀ (n : Nat) (L : List Nat), L.length ≤ n → Lex L (lexF n L)
  | 0, [], _ => .nil
  | n + 1, [], _ => .nil
  | 0, _ :: _, h => by simp at h
  | n + 1, c :: r, h => by
    have hr : r.length ≤ n := by simpa using h
    unfold lexF
    by_cases hc : c = 32
    · rw [if_pos hc, hc]
      exact .sp (lexF_ok n r hr)
    · rw [if_neg hc]
      cases e : lexC c r with
      | none => exact .bad hc e
      | some tk =>
        obtain ⟨t, k⟩ := tk
        have hk := lexC_pos e
        exact .tok hc e (lexF_ok n _ (by rw [List.length_drop, List.length_cons]; omega))
theorem Lex.uni {L : List Nat} {o : Option (List K1.Tok)} (h : Lex L o) : ∀ {o'}, Lex L o' → o = o' := by
  induction h with
  | nil => intro o' h'; cases h'; rfl
  | sp _ ih =>
    intro o' h'
    cases h' with
    | sp h' => exact ih h'
    | bad n _ => exact absurd rfl n
    | tok n _ _ => exact absurd rfl n
  | bad n e =>
    intro o' h'
    cases h' with
    | sp h' => exact absurd rfl n
    | bad _ _ => rfl
    | tok _ e' _ => rw [e] at e'; cases e'
  | tok n e _ ih =>
    intro o' h'
    cases h' with
    | sp h' => exact absurd rfl n
    | bad _ e' => rw [e] at e'; cases e'
    | tok _ e' h'' =>
      rw [e] at e'
      cases e'
      rw [ih h'']
def valsM (L : List Nat) : Option (List AV) := match lexF L.length L with
  | none => none
  | some ts => if argsB (mkAV 1 ts) = true then some (mkAV 1 ts) else none
def numO (L : List Nat) (m len : Nat) : Option Nat := if digB (S L) = true ∧ L.length ≤ len ∧ val L ≤ m then some (val L) else none
def callN (a b m f : List Nat) (args : Option (List AV)) : Option Rec :=
  if (nameB (S m) && nameB (S f)) = true then
    match numO a 2 1 with
    | none => none
    | some h => match numO b 9999 4 with
      | none => none
      | some n => match args with
        | none => none
        | some ad => some (.call h n (S m) (S f) ad)
  else none
def callM (L : List Nat) : Option Rec := match spl 32 4 L [] with
  | [a, b, m, f] => callN a b m f (some [])
  | [a, b, m, f, g] => callN a b m f (valsM g)
  | _ => none
def textM (L : List Nat) : Option Rec := if nameB (S (parL 32 L).1) = true ∧ (parL 32 L).2.length ≤ 600 then some (.txt (S (parL 32 L).1) (S ((parL 32 L).2.map fun d => if d = 124 then 10 else d))) else none
def entM (L : List Nat) : Option Rec := if (decide (0 < ((spl 32 (L.length + 1) L []).map S).length) && namsB ((spl 32 (L.length + 1) L []).map S) 3) = true then some (.ent ((spl 32 (L.length + 1) L []).map S)) else none
def recM (w : Str) (L : List Nat) : Option Rec :=
  if w = "entries" then entM L
  else if w = "text" then textM L
  else if w = "remove" then (if nameB (S L) = true then some (.rem (S L)) else none)
  else if w = "update" then (match numO L 8 1 with | none => none | some n => some (.upd n))
  else if w = "call" then callM L else none
def chsB (L : List Nat) : Bool := L.all isCh
def readM (L : List Nat) : Option Rec := if chsB L = true then (match recM (S (parL 32 L).1) (parL 32 L).2 with
  | none => none
  | some x => if wR x = S L then some x else none) else none
/-! ### sizes -/
theorem spl_mem (c : Nat) : ∀ (r : List Nat) (k : Nat) (acc : List Nat) (p : List Nat), p ∈ spl c k r acc → (∀ d ∈ p, d ∈ acc ∨ d ∈ r) ∧ p.length ≤ acc.length + r.length
  | [], k, acc, p, h => by
    unfold spl at h
    rw [List.mem_singleton.mp h]
    exact ⟨fun d hd => .inl hd, Nat.le_refl _⟩
  | d :: r, 0, acc, p, h => by
    unfold spl at h
    rw [List.mem_singleton.mp h]
    exact ⟨fun e he => List.mem_append.mp he, by rw [List.length_append]; exact Nat.le_refl _⟩
  | d :: r, k + 1, acc, p, h => by
    unfold spl at h
    by_cases hd : d = c
    · rw [if_pos hd] at h
      rcases List.mem_cons.mp h with rfl | h
      · exact ⟨fun e he => .inl he, by omega⟩
      · have ih := spl_mem c r k [] p h
        refine ⟨fun e he => .inr (List.mem_cons_of_mem _ ((ih.1 e he).elim (fun z => (by cases z)) id)), ?_⟩
        have := ih.2
        rw [List.length_nil] at this
        rw [List.length_cons]
        omega
    · rw [if_neg hd] at h
      have ih := spl_mem c r (k + 1) (acc ++ [d]) p h
      refine ⟨fun e he => ?_, ?_⟩
      · rcases ih.1 e he with z | z
        · rcases List.mem_append.mp z with z | z
          · exact .inl z
          · rw [List.mem_singleton.mp z]
            exact .inr List.mem_cons_self
        · exact .inr (List.mem_cons_of_mem _ z)
      · have := ih.2
        rw [List.length_append, List.length_singleton] at this
        rw [List.length_cons]
        omega
theorem spl_count (c : Nat) : ∀ (r : List Nat) (k : Nat) (acc : List Nat), 1 ≤ (spl c k r acc).length ∧ (spl c k r acc).length ≤ k + 1
  | [], k, acc => by unfold spl; exact ⟨Nat.le_refl _, Nat.succ_le_succ (Nat.zero_le _)⟩
  | d :: r, 0, acc => ⟨Nat.le_refl _, Nat.le_refl _⟩
  | d :: r, k + 1, acc => by
    unfold spl
    by_cases hd : d = c
    · rw [if_pos hd]
      have := spl_count c r k []
      rw [List.length_cons]
      omega
    · rw [if_neg hd]
      exact spl_count c r (k + 1) (acc ++ [d])
theorem parL_mem (c : Nat) (L : List Nat) : ((∀ d ∈ (parL c L).1, d ∈ L) ∧ (parL c L).1.length ≤ L.length) ∧ ((∀ d ∈ (parL c L).2, d ∈ L) ∧ (parL c L).2.length ≤ L.length) := by
  have m := spl_mem c L 1 []
  have k : ∀ p ∈ spl c 1 L [], (∀ d ∈ p, d ∈ L) ∧ p.length ≤ L.length := fun p hp => ⟨fun d hd => ((m p hp).1 d hd).elim (fun z => (by cases z)) id, by have := (m p hp).2; rw [List.length_nil] at this; omega⟩
  unfold parL
  split
  · rename_i a b e
    rw [e] at k
    exact ⟨k a List.mem_cons_self, k b (List.mem_cons_of_mem _ List.mem_cons_self)⟩
  · exact ⟨⟨fun d h => h, Nat.le_refl _⟩, ⟨fun d h => (by cases h), Nat.zero_le _⟩⟩
theorem argsB_sm {ad : List AV} (h : argsB ad = true) : ad.length ≤ 3 ∧ ∀ x ∈ ad, aB x = true := by
  unfold argsB at h
  rw [Bool.and_eq_true, List.all_eq_true] at h
  exact ⟨of_decide_eq_true h.1, h.2⟩
theorem neg_list {n : Nat} (h : 0 < n) : (Str.ofString (toString (-((n : Nat) : Int)))).cps.toList = 45 :: numT n := by
  rw [toString_neg (n := -((n : Nat) : Int)) (by omega)]
  have e : (0 : Int) - -((n : Nat) : Int) = ((n : Nat) : Int) := by omega
  rw [e]
  have ofs : ∀ s : String, (Str.ofString s).cps.toList = s.toList.map Char.toNat := fun s => by
    unfold Str.ofString
    rw [← cpsOfBytes_string]
  rw [ofs, String.toList_append, List.map_append, ← ofs, ← ofs]
  rfl
theorem aT_len {x : AV} (h : aB x = true) : aZ x ∧ (aT x).length ≤ 10000 := by
  cases x with
  | i n =>
    obtain ⟨h1, h2⟩ : -99999 ≤ n ∧ n ≤ 99999 := of_decide_eq_true h
    rcases (show n < 0 ∨ 0 ≤ n by omega) with hn | hn
    · obtain ⟨m, rfl⟩ : ∃ m : Nat, n = -((m : Nat) : Int) := ⟨n.natAbs, by omega⟩
      have hm : 0 < m := by omega
      refine ⟨?_, ?_⟩
      · show (-((m : Nat) : Int)).natAbs.log2 < 1920
        rw [Int.natAbs_neg]
        exact log_small (by omega)
      · have e := congrArg List.length (neg_list hm)
        rw [Array.length_toList, List.length_cons] at e
        have := (numT_dig (show m ≤ 99999 by omega)).2.1
        show (Str.ofString (toString (-((m : Nat) : Int)))).cps.size ≤ 10000
        omega
    · obtain ⟨m, rfl⟩ : ∃ m : Nat, n = ((m : Nat) : Int) := ⟨n.natAbs, by omega⟩
      have := numT_small (n := m) (by omega)
      refine ⟨this.1, ?_⟩
      have e : (numT m).length = (Str.ofString (toString ((m : Nat) : Int))).length := Array.length_toList
      have := (numT_dig (show m ≤ 99999 by omega)).2.1
      show (Str.ofString (toString ((m : Nat) : Int))).length ≤ 10000
      omega
  | s z =>
    have hz : z.length ≤ 20 := by
      unfold aB strV at h
      rw [Bool.and_eq_true] at h
      exact of_decide_eq_true h.1
    refine ⟨Nat.le_trans hz (by decide), ?_⟩
    show ((Str.ofString "\"").cps ++ z.cps ++ (Str.ofString "\"").cps).size ≤ 10000
    rw [Array.size_append, Array.size_append]
    have e1 : (Str.ofString "\"").cps.size = 1 := rfl
    have e2 : z.cps.size = z.length := rfl
    omega
theorem callN_sm {a b m f : List Nat} {o : Option (List AV)} {x : Rec} (h : callN a b m f o = some x) (hm : m.length ≤ 5000) (hf : f.length ≤ 5000) (ho : ∀ ad, o = some ad → argsB ad = true) : RecSm x := by
  unfold callN numO at h
  split at h
  · split at h
    · cases h
    · rename_i h1 hh e1
      split at h
      · cases h
      · rename_i n e2
        split at h
        · cases h
        · rename_i ad
          cases h
          have q := argsB_sm (ho ad rfl)
          have n1 : hh ≤ 2 := by
            split at e1
            · rename_i z
              cases e1
              exact z.2.2
            · cases e1
          have n2 : n ≤ 9999 := by
            split at e2
            · rename_i z
              cases e2
              exact z.2.2
            · cases e2
          exact ⟨by omega, by omega, by rw [S_len]; exact hm, by rw [S_len]; exact hf, by omega, fun y hy => aT_len (q.2 y hy)⟩
  · cases h
theorem valsM_ok {L : List Nat} : ∀ ad, valsM L = some ad → argsB ad = true := by
  intro ad h
  unfold valsM at h
  split at h
  · cases h
  · split at h
    · rename_i h2
      cases h
      exact h2
    · cases h
theorem recM_sm {w : Str} {L : List Nat} {x : Rec} (hl : L.length ≤ 5000) (h : recM w L = some x) : RecSm x := by
  have pl : ∀ k, ∀ p ∈ spl 32 k L [], p.length ≤ 5000 := fun k p hp => by have := (spl_mem 32 L k [] p hp).2; rw [List.length_nil] at this; omega
  unfold recM at h
  split at h
  · unfold entM at h
    split at h
    · rename_i h2
      cases h
      rw [Bool.and_eq_true] at h2
      unfold namsB at h2
      rw [Bool.and_eq_true, Bool.and_eq_true] at h2
      have := of_decide_eq_true h2.2.1.1
      refine ⟨by omega, fun z hz => ?_⟩
      obtain ⟨p, hp, rfl⟩ := List.mem_map.mp hz
      rw [S_len]
      exact pl _ p hp
    · cases h
  split at h
  · unfold textM at h
    have := parL_mem 32 L
    split at h
    · cases h
      refine ⟨by rw [S_len]; omega, by rw [S_len, List.length_map]; omega⟩
    · cases h
  split at h
  · split at h
    · cases h
      show (S L).length ≤ 5000
      rw [S_len]
      exact hl
    · cases h
  split at h
  · split at h
    · cases h
    · rename_i n e
      cases h
      unfold numO at e
      split at e
      · rename_i z
        cases e
        show val L < 100000
        omega
      · cases e
  split at h
  · unfold callM at h
    split at h
    · rename_i a b m f e
      have := pl 4
      rw [e] at this
      exact callN_sm h (this m (by simp)) (this f (by simp)) fun ad e => by cases e; rfl
    · rename_i a b m f g e
      have := pl 4
      rw [e] at this
      exact callN_sm h (this m (by simp)) (this f (by simp)) valsM_ok
    · cases h
  · cases h
end K6

set_option maxRecDepth 100000
set_option maxHeartbeats 4000000
/-! what is written is read -/
namespace K6
open PySem hiding Tok code
open PySem.Spec PyProof.Rows GD K1
open L2 hiding rest
open TL (joinL tl_join)
theorem wR_list (x : Rec) : (wR x).cps.toList = joinL [32] ((partsR x).map fun z => z.cps.toList) := by
  unfold wR Txt.join
  rw [StrLaws.glued_eq_join]
  exact tl_join " " _
theorem spl_hit (c k d : Nat) (r acc : List Nat) : spl c (k + 1) (d :: r) acc = if d = c then acc :: spl c k r [] else spl c (k + 1) r (acc ++ [d]) := rfl
theorem spl_at {c : Nat} : ∀ (a : List Nat) {b : List Nat} {k : Nat} {acc : List Nat}, c ∉ a → spl c (k + 1) (a ++ c :: b) acc = (acc ++ a) :: spl c k b []
  | [], b, k, acc, _ => by
    show spl c (k + 1) (c :: b) acc = _
    rw [spl_hit, if_pos rfl, List.append_nil]
  | d :: a, b, k, acc, h => by
    show spl c (k + 1) (d :: (a ++ c :: b)) acc = _
    have hd : d ≠ c := fun z => h (by rw [z]; exact List.mem_cons_self)
    have ih := spl_at a (b := b) (k := k) (acc := acc ++ [d]) fun z => h (List.mem_cons_of_mem _ z)
    rw [List.append_assoc] at ih
    rw [← show [d] ++ a = d :: a from rfl, ← ih]
    show (if d = c then _ else _) = _
    rw [if_neg hd]
theorem spl_end {c : Nat} : ∀ (a : List Nat) {k : Nat} {acc : List Nat}, c ∉ a → spl c k a acc = [acc ++ a]
  | [], k, acc, _ => by unfold spl; rw [List.append_nil]
  | d :: a, 0, acc, h => rfl
  | d :: a, k + 1, acc, h => by
    have hd : d ≠ c := fun z => h (by rw [z]; exact List.mem_cons_self)
    rw [spl_hit, if_neg hd, spl_end a fun z => h (List.mem_cons_of_mem _ z), List.append_assoc]
    rfl
theorem spl_zero (c : Nat) (g : List Nat) : spl c 0 g [] = [g] := by cases g <;> rfl
theorem parL_app {c : Nat} {a b : List Nat} (h : c ∉ a) : parL c (a ++ c :: b) = (a, b) := by
  unfold parL
  rw [spl_at a h, spl_zero]
  rfl
theorem joinL_cons (p q : List Nat) (r : List (List Nat)) : joinL [32] (p :: q :: r) = p ++ 32 :: joinL [32] (q :: r) := rfl
theorem joinL_all : ∀ {ps : List (List Nat)}, (∀ p ∈ ps, ∀ c ∈ p, isCh c = true) → ∀ c ∈ joinL [32] ps, isCh c = true
  | [], _, c, h => by cases h
  | [p], hp, c, h => hp p List.mem_cons_self c h
  | p :: q :: r, hp, c, h => by
    rw [joinL_cons] at h
    rcases List.mem_append.mp h with h | h
    · exact hp p List.mem_cons_self c h
    · rcases List.mem_cons.mp h with rfl | h
      · rfl
      · exact joinL_all (ps := q :: r) (fun p' h' => hp p' (List.mem_cons_of_mem _ h')) c h
theorem let_ch {c : Nat} (h : c ∈ LET) : isCh c = true := by
  have : ∀ c ∈ LET, isCh c = true := by decide +kernel
  exact this c h
theorem dig_ch {c : Nat} (h : c ∈ DIG) : isCh c = true := by
  have : ∀ c ∈ DIG, isCh c = true := by decide +kernel
  exact this c h
theorem name_let {z : Str} (h : nameB z = true) : (∀ c ∈ z.cps.toList, c ∈ LET) ∧ z.cps.toList ≠ [] ∧ z.length ≤ 6 := by
  unfold nameB at h
  rw [Bool.and_eq_true, Bool.and_eq_true, List.all_eq_true] at h
  have l := of_decide_eq_true h.1.1
  refine ⟨fun c hc => of_decide_eq_true (h.2 c hc), fun e => ?_, l.2⟩
  have e2 : z.cps.toList.length = z.length := Array.length_toList
  rw [e] at e2
  have : (0 : Nat) = z.length := e2
  omega
theorem let_32 {l : List Nat} (h : ∀ c ∈ l, c ∈ LET) : 32 ∉ l := fun z => absurd (h 32 z) (by decide)
theorem dig_32 {l : List Nat} (h : ∀ c ∈ l, c ∈ DIG) : 32 ∉ l := fun z => absurd (h 32 z) (by decide)
theorem readM_of {x : Rec} {wl rl : List Nat} (hw : (wR x).cps.toList = wl ++ 32 :: rl) (h32 : 32 ∉ wl) (hc : ∀ c ∈ (wR x).cps.toList, isCh c = true) (hr : recM (S wl) rl = some x) : readM (wR x).cps.toList = some x := by
  unfold readM chsB
  rw [if_pos (List.all_eq_true.mpr hc), hw, parL_app h32]
  show (match recM (S wl) rl with | none => none | some x => if wR x = S (wl ++ 32 :: rl) then some x else none) = _
  rw [hr]
  show (if wR x = _ then _ else _) = _
  rw [if_pos]
  rw [← hw, S_of]
/-! ### values -/
def aL (a : AV) : List Nat := (aT a).cps.toList
def tkA : AV → List K1.Tok
  | .i n => if n < 0 then [.sign 45, .num n.natAbs] else [.num n.natAbs]
  | .s z => [.str z.cps.toList]
theorem tkA_i (n : Int) : tkA (.i n) = if n < 0 then [.sign 45, .num n.natAbs] else [.num n.natAbs] := rfl
theorem lex_one {t : K1.Tok} {tail : List Nat} {o : Option (List K1.Tok)} (g : good t) (ap : apart t tail) (h : Lex tail o) : Lex (spell t ++ tail) (o.map (t :: ·)) := by
  obtain ⟨c, v, e1, e2, e3⟩ := lex_spell g ap
  rw [e1]
  refine Lex.tok e2 e3 ?_
  rw [← e1]
  have : (spell t ++ tail).drop (spell t).length = tail := List.drop_left' rfl
  rw [this]
  exact h
theorem aL_nat (m : Nat) : aL (.i (m : Nat)) = numT m := rfl
theorem aL_neg {m : Nat} (h : 0 < m) : aL (.i (-((m : Nat) : Int))) = 45 :: numT m := neg_list h
theorem aL_str (z : Str) : aL (.s z) = [34] ++ z.cps.toList ++ [34] := by
  show ((Str.ofString "\"").cps ++ z.cps ++ (Str.ofString "\"").cps).toList = _
  rw [Array.toList_append, Array.toList_append]
  rfl
theorem lex_val {a : AV} (g : aB a = true) {tail : List Nat} {o : Option (List K1.Tok)} (h : Lex tail o) (hs : ∀ c r, tail = c :: r → c = 32) : Lex (aL a ++ tail) (o.map (tkA a ++ ·)) := by
  have ap : ∀ t, apart t tail := fun t => by
    cases t with
    | word _ => exact fun c r e => by rw [hs c r e]; decide
    | num _ => exact fun c r e => by rw [hs c r e]; decide
    | str _ => trivial
    | sign _ => trivial
  cases a with
  | i n =>
    obtain ⟨h1, h2⟩ : -99999 ≤ n ∧ n ≤ 99999 := of_decide_eq_true g
    by_cases hn : n < 0
    · obtain ⟨m, rfl⟩ : ∃ m : Nat, n = -((m : Nat) : Int) := ⟨n.natAbs, by omega⟩
      have l1 := lex_one (t := .num m) (show m ≤ 99999 by omega) (ap _) h
      have l2 := lex_one (t := .sign 45) (show 45 ∈ SGN by decide) trivial l1
      have e : tkA (.i (-((m : Nat) : Int))) = [.sign 45, .num m] := by
        rw [tkA_i, if_pos hn, Int.natAbs_neg]
        rfl
      rw [aL_neg (by omega), e]
      cases o <;> exact l2
    · obtain ⟨m, rfl⟩ : ∃ m : Nat, n = ((m : Nat) : Int) := ⟨n.natAbs, by omega⟩
      have l1 := lex_one (t := .num m) (show m ≤ 99999 by omega) (ap _) h
      have e : tkA (.i ((m : Nat) : Int)) = [.num m] := by
        rw [tkA_i, if_neg hn]
        rfl
      rw [aL_nat, e]
      cases o <;> exact l1
  | s z =>
    have gz : good (.str z.cps.toList) := by
      unfold aB strV at g
      rw [Bool.and_eq_true, List.all_eq_true] at g
      have e2 : z.cps.toList.length = z.length := Array.length_toList
      exact ⟨by rw [e2]; exact of_decide_eq_true g.1, fun c hc => g.2 c hc⟩
    have l1 := lex_one (t := .str z.cps.toList) gz trivial h
    rw [aL_str]
    cases o <;> exact l1
theorem lex_vals : ∀ (ad : List AV), (∀ a ∈ ad, aB a = true) → Lex (joinL [32] (ad.map aL)) (some (ad.flatMap tkA))
  | [], _ => .nil
  | [a], h => by
    have := lex_val (h a List.mem_cons_self) Lex.nil (fun c r e => by cases e)
    rw [List.append_nil] at this
    exact this
  | a :: b :: r, h => by
    have ih := lex_vals (b :: r) fun x hx => h x (List.mem_cons_of_mem _ hx)
    have := lex_val (h a List.mem_cons_self) (Lex.sp ih) (fun c r e => by cases e; rfl)
    exact this
theorem mkAV_tk : ∀ (ad : List AV), mkAV 1 (ad.flatMap tkA) = ad
  | [] => rfl
  | .s z :: r => by
    show AV.s (S z.cps.toList) :: mkAV 1 (r.flatMap tkA) = _
    rw [mkAV_tk r, S_of]
  | .i n :: r => by
    show mkAV 1 (tkA (.i n) ++ r.flatMap tkA) = _
    rw [tkA_i]
    split
    · show AV.i (-1 * ((n.natAbs : Nat) : Int)) :: mkAV 1 (r.flatMap tkA) = _
      rw [mkAV_tk r]
      congr 2
      omega
    · show AV.i (1 * ((n.natAbs : Nat) : Int)) :: mkAV 1 (r.flatMap tkA) = _
      rw [mkAV_tk r]
      congr 2
      omega
theorem valsM_of {ad : List AV} (h : argsB ad = true) : valsM (joinL [32] (ad.map aL)) = some ad := by
  have e := Lex.uni (lexF_ok _ (joinL [32] (ad.map aL)) (Nat.le_refl _)) (lex_vals ad (argsB_sm h).2)
  unfold valsM
  rw [e]
  show (if argsB (mkAV 1 _) = true then some (mkAV 1 _) else none) = _
  rw [mkAV_tk, if_pos h]
theorem numO_of {n m len : Nat} (h : n ≤ m) (hm : m ≤ 99999) (hl : (numT n).length ≤ len) : numO (numT n) m len = some n := by
  obtain ⟨h1, h2, h3, h4⟩ := numT_dig (show n ≤ 99999 by omega)
  unfold numO
  rw [h4, if_pos]
  refine ⟨?_, hl, h⟩
  unfold digB
  rw [S_toList, Bool.and_eq_true, List.all_eq_true]
  refine ⟨?_, fun c hc => decide_eq_true (h3 c hc)⟩
  cases hh : numT n with
  | nil => exact absurd hh h1
  | cons a b => rfl
theorem aL_ch {a : AV} (g : aB a = true) : ∀ c ∈ aL a, isCh c = true := by
  intro c hc
  cases a with
  | i n =>
    obtain ⟨h1, h2⟩ : -99999 ≤ n ∧ n ≤ 99999 := of_decide_eq_true g
    rcases (show n < 0 ∨ 0 ≤ n by omega) with hn | hn
    · obtain ⟨m, rfl⟩ : ∃ m : Nat, n = -((m : Nat) : Int) := ⟨n.natAbs, by omega⟩
      rw [aL_neg (by omega)] at hc
      rcases List.mem_cons.mp hc with rfl | hc
      · rfl
      · exact dig_ch ((numT_dig (show m ≤ 99999 by omega)).2.2.1 c hc)
    · obtain ⟨m, rfl⟩ : ∃ m : Nat, n = ((m : Nat) : Int) := ⟨n.natAbs, by omega⟩
      exact dig_ch ((numT_dig (show m ≤ 99999 by omega)).2.2.1 c hc)
  | s z =>
    rw [aL_str] at hc
    unfold aB strV at g
    rw [Bool.and_eq_true, List.all_eq_true] at g
    rcases List.mem_append.mp hc with hc | hc
    · rcases List.mem_append.mp hc with hc | hc
      · rw [List.mem_singleton.mp hc]; rfl
      · have := g.2 c hc
        unfold mayC at this
        have := of_decide_eq_true this
        exact decide_eq_true ⟨this.1, this.2.1, this.2.2.1⟩
    · rw [List.mem_singleton.mp hc]; rfl
/-! ### whole records -/
/-- a record that can be drawn -/
def RecOK : Rec → Prop
  | .ent xs => xs = ([Str.ofString "a"] : List Str) ∨ xs = [Str.ofString "abcdef", Str.ofString "b"] ∨ xs = [Str.ofString "c", Str.ofString "a", Str.ofString "b"]
  | .txt m t => nameB m = true ∧ t.length ≤ 600 ∧ ∀ c ∈ t.cps.toList, c = 10 ∨ (isCh c = true ∧ c ≠ 124)
  | .rem m => nameB m = true
  | .upd n => n ≤ 8
  | .call h n m f ad => h ≤ 2 ∧ n ≤ 9999 ∧ nameB m = true ∧ nameB f = true ∧ argsB ad = true
def partL : Rec → List (List Nat)
  | .ent xs => xs.map fun z => z.cps.toList
  | .txt m t => [m.cps.toList, t.cps.toList.map fun d => if d = 10 then 124 else d]
  | .rem m => [m.cps.toList]
  | .upd n => [numT n]
  | .call h n m f ad => numT h :: numT n :: m.cps.toList :: f.cps.toList :: ad.map aL
theorem repl_to (t : Str) : (Txt.replace t "\n" "|").cps.toList = t.cps.toList.map fun d => if d = 10 then 124 else d := by
  have := repl_list t.cps.toList 10 124
  rw [S_of] at this
  exact congrArg (fun z : Str => z.cps.toList) this
theorem parts_list (x : Rec) : (partsR x).map (fun z => z.cps.toList) = (wordR x).cps.toList :: partL x := by
  cases x with
  | ent xs => rfl
  | txt m t => show [_, _, (Txt.replace t "\n" "|").cps.toList] = _; rw [repl_to]; rfl
  | rem m => rfl
  | upd n => rfl
  | call h n m f ad => show _ :: _ :: _ :: _ :: _ :: List.map _ (ad.map aT) = _; rw [List.map_map]; rfl
theorem partL_ne {x : Rec} (h : RecOK x) : partL x ≠ [] := by
  cases x with
  | ent xs => rcases h with rfl | rfl | rfl <;> exact fun z => by cases z
  | txt m t => exact fun z => by cases z
  | rem m => exact fun z => by cases z
  | upd n => exact fun z => by cases z
  | call h n m f ad => exact fun z => by cases z
theorem word_32 (x : Rec) : 32 ∉ (wordR x).cps.toList := by
  cases x
  · show 32 ∉ (Str.ofString "entries").cps.toList; decide +kernel
  · show 32 ∉ (Str.ofString "text").cps.toList; decide +kernel
  · show 32 ∉ (Str.ofString "remove").cps.toList; decide +kernel
  · show 32 ∉ (Str.ofString "update").cps.toList; decide +kernel
  · show 32 ∉ (Str.ofString "call").cps.toList; decide +kernel
theorem wR_split {x : Rec} (h : partL x ≠ []) : (wR x).cps.toList = (wordR x).cps.toList ++ 32 :: joinL [32] (partL x) := by
  rw [wR_list, parts_list]
  cases hp : partL x with
  | nil => exact absurd hp h
  | cons a b => rfl
theorem word_ch (x : Rec) : ∀ c ∈ (wordR x).cps.toList, isCh c = true := by
  cases x
  · show ∀ c ∈ (Str.ofString "entries").cps.toList, isCh c = true; decide +kernel
  · show ∀ c ∈ (Str.ofString "text").cps.toList, isCh c = true; decide +kernel
  · show ∀ c ∈ (Str.ofString "remove").cps.toList, isCh c = true; decide +kernel
  · show ∀ c ∈ (Str.ofString "update").cps.toList, isCh c = true; decide +kernel
  · show ∀ c ∈ (Str.ofString "call").cps.toList, isCh c = true; decide +kernel
theorem partL_ch {x : Rec} (h : RecOK x) : ∀ p ∈ partL x, ∀ c ∈ p, isCh c = true := by
  cases x with
  | ent xs =>
    rcases h with rfl | rfl | rfl <;> (show ∀ p ∈ _, ∀ c ∈ p, isCh c = true) <;> decide +kernel
  | txt m t =>
    obtain ⟨h1, h2, h3⟩ := h
    intro p hp c hc
    rcases List.mem_cons.mp hp with rfl | hp
    · exact let_ch ((name_let h1).1 c hc)
    · rw [List.mem_singleton.mp hp] at hc
      obtain ⟨d, hd, rfl⟩ := List.mem_map.mp hc
      show isCh (if d = 10 then 124 else d) = true
      by_cases e : d = 10
      · rw [if_pos e]; rfl
      · rw [if_neg e]
        exact ((h3 d hd).resolve_left e).1
  | rem m =>
    intro p hp c hc
    rw [List.mem_singleton.mp hp] at hc
    exact let_ch ((name_let h).1 c hc)
  | upd n =>
    intro p hp c hc
    rw [List.mem_singleton.mp hp] at hc
    exact dig_ch ((numT_dig (show n ≤ 99999 by have : n ≤ 8 := h; omega)).2.2.1 c hc)
  | call hh n m f ad =>
    obtain ⟨h1, h2, h3, h4, h5⟩ := h
    intro p hp c hc
    rcases List.mem_cons.mp hp with rfl | hp
    · exact dig_ch ((numT_dig (show hh ≤ 99999 by omega)).2.2.1 c hc)
    rcases List.mem_cons.mp hp with rfl | hp
    · exact dig_ch ((numT_dig (show n ≤ 99999 by omega)).2.2.1 c hc)
    rcases List.mem_cons.mp hp with rfl | hp
    · exact let_ch ((name_let h3).1 c hc)
    rcases List.mem_cons.mp hp with rfl | hp
    · exact let_ch ((name_let h4).1 c hc)
    obtain ⟨a, ha, rfl⟩ := List.mem_map.mp hp
    exact aL_ch ((argsB_sm h5).2 a ha) c hc
theorem callM_of {h n : Nat} {m f : Str} {ad : List AV} (h1 : h ≤ 2) (h2 : n ≤ 9999) (h3 : nameB m = true) (h4 : nameB f = true) (h5 : argsB ad = true) :
    callM (joinL [32] (numT h :: numT n :: m.cps.toList :: f.cps.toList :: ad.map aL)) = some (.call h n m f ad) := by
  have d1 := numT_dig (show h ≤ 99999 by omega)
  have d2 := numT_dig (show n ≤ 99999 by omega)
  have n1 := dig_32 d1.2.2.1
  have n2 := dig_32 d2.2.2.1
  have n3 := let_32 (name_let h3).1
  have n4 := let_32 (name_let h4).1
  have l1 : (numT h).length ≤ 1 := by
    rw [numT_eq, List.length_map]
    exact digits_len 0 h (by omega)
  have l2 : (numT n).length ≤ 4 := by
    rw [numT_eq, List.length_map]
    exact digits_len 3 n (by omega)
  have q : ∀ o, o = some ad → callN (numT h) (numT n) m.cps.toList f.cps.toList o = some (.call h n m f ad) := fun o eo => by
    unfold callN
    rw [S_of, S_of, h3, h4, numO_of h1 (by decide) l1, numO_of h2 (by decide) l2, eo]
    rfl
  unfold callM
  rw [joinL_cons, joinL_cons, joinL_cons, spl_at _ n1, spl_at _ n2, spl_at _ n3]
  cases had : ad with
  | nil =>
    have e4 : spl 32 1 (joinL [32] (f.cps.toList :: List.map aL [])) [] = [[] ++ f.cps.toList] := spl_end _ n4
    rw [e4]
    rw [had] at q
    exact q _ rfl
  | cons a r =>
    rw [List.map_cons, joinL_cons, spl_at _ n4, spl_zero]
    have := valsM_of h5
    rw [had] at this q
    rw [List.map_cons] at this
    exact q _ this
theorem read_back {x : Rec} (h : RecOK x) : readM (wR x).cps.toList = some x := by
  refine readM_of (wR_split (partL_ne h)) (word_32 x) (fun c hc => ?_) ?_
  · rw [wR_split (partL_ne h)] at hc
    rcases List.mem_append.mp hc with hc | hc
    · exact word_ch x c hc
    · rcases List.mem_cons.mp hc with rfl | hc
      · rfl
      · exact joinL_all (partL_ch h) c hc
  · rw [S_of]
    cases x with
    | ent xs =>
      rcases h with rfl | rfl | rfl
      · rfl
      · rfl
      · rfl
    | txt m t =>
      obtain ⟨h1, h2, h3⟩ := h
      show recM "text" (m.cps.toList ++ 32 :: t.cps.toList.map fun d => if d = 10 then 124 else d) = _
      show textM _ = _
      unfold textM
      rw [parL_app (let_32 (name_let h1).1)]
      show (if nameB (S m.cps.toList) = true ∧ (t.cps.toList.map _).length ≤ 600 then some (Rec.txt (S m.cps.toList) (S ((t.cps.toList.map _).map _))) else none) = _
      have e2 : t.cps.toList.length = t.length := Array.length_toList
      rw [S_of, if_pos ⟨h1, by rw [List.length_map, e2]; exact h2⟩, List.map_map]
      have : ∀ l : List Nat, (∀ c ∈ l, c = 10 ∨ (isCh c = true ∧ c ≠ 124)) → l.map ((fun d => if d = 124 then 10 else d) ∘ fun d => if d = 10 then 124 else d) = l := fun l => by
        induction l with
        | nil => exact fun _ => rfl
        | cons c r ih =>
          intro hl
          rw [List.map_cons, ih fun d hd => hl d (List.mem_cons_of_mem _ hd)]
          congr 1
          show (if (if c = 10 then 124 else c) = 124 then 10 else (if c = 10 then 124 else c)) = c
          by_cases e : c = 10
          · rw [if_pos e, if_pos rfl, e]
          · rw [if_neg e, if_neg ((hl c List.mem_cons_self).resolve_left e).2]
      rw [this _ h3, S_of]
    | rem m =>
      show (if nameB (S m.cps.toList) = true then some (Rec.rem (S m.cps.toList)) else none) = _
      rw [S_of, if_pos (show nameB m = true from h)]
    | upd n =>
      have hn : n ≤ 8 := h
      show (match numO (numT n) 8 1 with | none => none | some n => some (Rec.upd n)) = _
      rw [numO_of hn (by decide) (by rw [numT_eq, List.length_map]; exact digits_len 0 n (by omega))]
    | call hh n m f ad =>
      obtain ⟨h1, h2, h3, h4, h5⟩ := h
      exact callM_of h1 h2 h3 h4 h5
end K6

set_option maxRecDepth 100000
set_option maxHeartbeats 4000000
/-! what is not read -/
namespace K6
open PySem hiding Tok code
open PySem.Spec PyProof.Rows GD K1
open L2 hiding rest
open TL (joinL tl_join)
def WF : Rec → Prop
  | .ent xs => xs ≠ [] ∧ ∀ z ∈ xs, nameB z = true
  | .txt _ _ => True
  | .rem m => nameB m = true
  | .upd n => n ≤ 8
  | .call _ _ _ f ad => nameB f = true ∧ ∀ y ∈ ad, aB y = true
def isTxt : Rec → Bool
  | .txt _ _ => true
  | _ => false
theorem callN_wf {a b m f : List Nat} {o : Option (List AV)} {x : Rec} (h : callN a b m f o = some x) (ho : ∀ ad, o = some ad → argsB ad = true) : WF x ∧ isTxt x = false := by
  unfold callN at h
  split at h
  · rename_i h0
    rw [Bool.and_eq_true] at h0
    split at h
    · cases h
    · split at h
      · cases h
      · split at h
        · cases h
        · rename_i ad
          cases h
          exact ⟨⟨h0.2, (argsB_sm (ho ad rfl)).2⟩, rfl⟩
  · cases h
theorem recM_wf {w : Str} {L : List Nat} {x : Rec} (h : recM w L = some x) (nw : w ≠ "text") : WF x ∧ isTxt x = false := by
  unfold recM at h
  split at h
  · unfold entM at h
    split at h
    · rename_i h2
      cases h
      rw [Bool.and_eq_true] at h2
      unfold namsB at h2
      rw [Bool.and_eq_true, Bool.and_eq_true, List.all_eq_true] at h2
      refine ⟨⟨fun e => ?_, fun z hz => h2.2.2 z hz⟩, rfl⟩
      have := of_decide_eq_true h2.1
      rw [e] at this
      exact absurd this (by decide)
    · cases h
  split at h
  · split at h
    · rename_i e
      cases h
      exact ⟨e, rfl⟩
    · cases h
  split at h
  · split at h
    · cases h
    · rename_i n e
      cases h
      unfold numO at e
      split at e
      · rename_i z
        cases e
        exact ⟨z.2.2, rfl⟩
      · cases e
  split at h
  · unfold callM at h
    split at h
    · exact callN_wf h fun ad e => by cases e; rfl
    · exact callN_wf h valsM_ok
    · cases h
  · cases h
theorem joinL_last : ∀ (qs : List (List Nat)) (p : List Nat), ∃ pre, joinL [32] (qs ++ [p]) = pre ++ p
  | [], p => ⟨[], rfl⟩
  | [q], p => ⟨q ++ [32], by show q ++ 32 :: p = _; rw [List.append_assoc]; rfl⟩
  | q :: r :: s, p => by
    obtain ⟨pre, e⟩ := joinL_last (r :: s) p
    refine ⟨q ++ 32 :: pre, ?_⟩
    show q ++ 32 :: joinL [32] ((r :: s) ++ [p]) = _
    rw [e, List.append_assoc]
    rfl
theorem noblank {p : List Nat} (h : p ≠ []) (n : 32 ∉ p) {pre l : List Nat} (e : pre ++ p = l ++ [32]) : False := by
  have h1 := congrArg List.getLast? e
  rw [List.getLast?_concat, List.getLast?_append, List.getLast?_eq_some_getLast h] at h1
  have h2 : p.getLast h = 32 := Option.some.inj h1
  exact n (h2 ▸ List.getLast_mem h)
theorem wf_last {x : Rec} (h : WF x) (nt : isTxt x = false) {l : List Nat} (e : (wR x).cps.toList = l ++ [32]) : False := by
  have key : ∀ qs p, partL x = qs ++ [p] → p ≠ [] → 32 ∉ p → False := fun qs p hp h1 h2 => by
    obtain ⟨pre, hq⟩ := joinL_last ((wordR x).cps.toList :: qs) p
    rw [wR_list, parts_list, hp] at e
    exact noblank h1 h2 (hq.symm.trans e)
  cases x with
  | ent xs =>
    obtain ⟨h1, h2⟩ := h
    rcases List.eq_nil_or_concat xs with rfl | ⟨ys, z, rfl⟩
    · exact h1 rfl
    · have nz := name_let (h2 z (by simp))
      exact key (ys.map fun z => z.cps.toList) z.cps.toList (by show List.map _ _ = _; simp) nz.2.1 (let_32 nz.1)
  | txt m t => cases nt
  | rem m =>
    have nz := name_let (show nameB m = true from h)
    exact key [] _ rfl nz.2.1 (let_32 nz.1)
  | upd n =>
    have hn : n ≤ 8 := h
    have d := numT_dig (show n ≤ 99999 by omega)
    exact key [] _ rfl d.1 (dig_32 d.2.2.1)
  | call hh n m f ad =>
    obtain ⟨h1, h2⟩ := h
    rcases List.eq_nil_or_concat ad with rfl | ⟨ys, a, rfl⟩
    · have nz := name_let h1
      exact key [numT hh, numT n, m.cps.toList] _ rfl nz.2.1 (let_32 nz.1)
    · have ha := h2 a (by simp)
      have k2 : ∀ b p, aL a = b ++ p → p ≠ [] → 32 ∉ p → False := fun b p hb h3 h4 => by
        obtain ⟨pre, hq⟩ := joinL_last ((wordR (.call hh n m f (ys.concat a))).cps.toList :: numT hh :: numT n :: m.cps.toList :: f.cps.toList :: ys.map aL) (aL a)
        rw [wR_list, parts_list] at e
        have e9 : partL (.call hh n m f (ys.concat a)) = numT hh :: numT n :: m.cps.toList :: f.cps.toList :: (ys.map aL ++ [aL a]) := by
          show _ :: _ :: _ :: _ :: List.map aL (ys.concat a) = _
          simp
        rw [e9] at e
        have e10 := hq.symm.trans e
        rw [hb, ← List.append_assoc] at e10
        exact noblank h3 h4 e10
      cases a with
      | i k =>
        obtain ⟨r1, r2⟩ : -99999 ≤ k ∧ k ≤ 99999 := of_decide_eq_true ha
        rcases (show k < 0 ∨ 0 ≤ k by omega) with hn | hn
        · obtain ⟨j, rfl⟩ : ∃ j : Nat, k = -((j : Nat) : Int) := ⟨k.natAbs, by omega⟩
          have d := numT_dig (show j ≤ 99999 by omega)
          exact k2 [45] (numT j) (aL_neg (by omega)) d.1 (dig_32 d.2.2.1)
        · obtain ⟨j, rfl⟩ : ∃ j : Nat, k = ((j : Nat) : Int) := ⟨k.natAbs, by omega⟩
          have d := numT_dig (show j ≤ 99999 by omega)
          exact k2 [] (numT j) rfl d.1 (dig_32 d.2.2.1)
      | s z => exact k2 ([34] ++ z.cps.toList) [34] (aL_str z) (by simp) (by decide)
theorem readM_some {L : List Nat} {x : Rec} (h : readM L = some x) : chsB L = true ∧ recM (S (parL 32 L).1) (parL 32 L).2 = some x ∧ wR x = S L := by
  unfold readM at h
  split at h
  · rename_i h1
    split at h
    · cases h
    · rename_i y e
      split at h
      · rename_i e2
        cases h
        exact ⟨h1, e, e2⟩
      · cases h
  · cases h
theorem readM_sm {L : List Nat} {x : Rec} (hl : L.length ≤ 5000) (h : readM L = some x) : RecSm x :=
  recM_sm (Nat.le_trans (parL_mem 32 L).2.2 hl) (readM_some h).2.1
theorem word_text {x : Rec} (h : isTxt x = false) : wordR x ≠ "text" := by
  cases x with
  | ent _ => exact (by decide : (Str.ofString "entries") ≠ Str.ofString "text")
  | txt _ _ => cases h
  | rem _ => exact (by decide : (Str.ofString "remove") ≠ Str.ofString "text")
  | upd _ => exact (by decide : (Str.ofString "update") ≠ Str.ofString "text")
  | call _ _ _ _ _ => exact (by decide : (Str.ofString "call") ≠ Str.ofString "text")
theorem read_blank {x : Rec} (h : RecOK x) (nt : isTxt x = false) : readM ((wR x).cps.toList ++ [32]) = none := by
  cases e : readM ((wR x).cps.toList ++ [32]) with
  | none => rfl
  | some y =>
    obtain ⟨_, h2, h3⟩ := readM_some e
    have ep : ((wR x).cps.toList ++ [32]) = (wordR x).cps.toList ++ 32 :: (joinL [32] (partL x) ++ [32]) := by
      rw [wR_split (partL_ne h), List.append_assoc]
      rfl
    rw [ep, parL_app (word_32 x), S_of] at h2
    obtain ⟨w1, w2⟩ := recM_wf h2 (word_text nt)
    exact (wf_last w1 w2 (congrArg (fun z : Str => z.cps.toList) h3)).elim
theorem blank_read (l : List Nat) : readM (32 :: l) = none := by
  cases e : readM (32 :: l) with
  | none => rfl
  | some y =>
    obtain ⟨_, h2, h3⟩ := readM_some e
    have ep : parL 32 (32 :: l) = ([], l) := parL_app (a := []) (by simp)
    rw [ep] at h2
    unfold recM at h2
    rw [if_neg (show ¬ S [] = Str.ofString "entries" by decide), if_neg (show ¬ S [] = Str.ofString "text" by decide), if_neg (show ¬ S [] = Str.ofString "remove" by decide), if_neg (show ¬ S [] = Str.ofString "update" by decide), if_neg (show ¬ S [] = Str.ofString "call" by decide)] at h2
    cases h2
def badT : List Str := ["text", "text a", "entries a a", "update 9", "call 3 0 a f", "call 0 0 a f 1 2 3 4", "call 0 0 a f -0", "remove if",
  S (("text a " : Str).cps.toList ++ List.replicate 601 120), "entries", "entries a b c d", "entries let", "text A x", "update 01", "call 0 10000 a f", "call 0 0 a f 100000", "call 0 0 a f \"x",
  S (("call 0 0 a f \"" : Str).cps.toList ++ List.replicate 21 120 ++ [34]), "entries a ", "call 0 0 a"]
theorem bad_read : ∀ z ∈ badT, (readM z.cps.toList).isNone = true := by decide +kernel
end K6

set_option maxRecDepth 100000
set_option maxHeartbeats 4000000
/-! call_of -/
namespace K6
open PySem hiding Tok code
open PySem.Spec PyProof.Rows GD K1
open L2 hiding rest
abbrev sCallOf : Stmt := topS 35
theorem op_inDT {X : Cx} (hu : X.A.units + 65 < cLine) : OpR X (compareOp .In) (fun x y H Q => ∃ d ds, Dp X.K H x d ∧ Dp X.K H y (.tuple ds) ∧ SeqAt.shaped d = true ∧ SeqAt.shaped (.tuple ds) = true ∧ Q (.bl (ds.any fun z => PyData.eqv z d)) H) := by
  intro pins s σ H x y v u Q I rx ry h
  obtain ⟨d, ds, hd, he, sd, se, q⟩ := h
  obtain ⟨as, r1⟩ := Dp.reads I d x v hd rx
  obtain ⟨bs, r2⟩ := Dp.reads I (.tuple ds) y u he ry
  exact SeqAt.in_tuple_reads r2 r1 (SeqAt.canLay_of_shaped se) (SeqAt.canLay_of_shaped sd) (room_in_shaped sd hu) ⟨.bl _, H, I, rfl, q⟩
/-- None, or a number -/
def oV : Option Nat → V
  | none => .non
  | some n => .int (n : Nat)
def oD : Option Nat → PyData
  | none => .none
  | some n => .int (n : Nat)
theorem numB_O (L : List Nat) (m len : Nat) : numB (S L) (m : Nat) len = oV (numO L m len) := by
  unfold numB numO
  rw [S_toList, S_len]
  by_cases h : digB (S L) = true ∧ L.length ≤ len ∧ val L ≤ m
  · rw [if_pos h, if_pos ⟨h.1, h.2.1, by omega⟩]
    rfl
  · rw [if_neg h, if_neg fun z => h ⟨z.1, z.2.1, by omega⟩]
    rfl
theorem oD_dp {K : PySem.W.Frag} {H : Hp} (o : Option Nat) : Dp K H (oV o) (oD o) := by
  cases o with
  | none => exact .non
  | some n => exact .int _
/-- arguments, or None -/
def ArgV (H : Hp) (v : V) : Option (List AV) → Prop
  | none => v = .non
  | some ad => ∃ a, v = .ref a ∧ H a = some (.tup (ad.map aV))
def agD : Option (List AV) → PyData
  | none => .none
  | some ad => .tuple (ad.map aD)
theorem agD_dp {K : PySem.W.Frag} {H : Hp} {v : V} {o : Option (List AV)} (h : ArgV H v o) : Dp K H v (agD o) := by
  cases o with
  | none => rw [show v = .non from h]; exact .non
  | some ad =>
    obtain ⟨a, rfl, e⟩ := h
    exact .tup (SqT.of e) (TDs.dp (aD_td ad))
/-- numbers and texts of the language can be laid -/
theorem aB_fit {x : AV} (h : aB x = true) : Fit (aD x) 0 202 := by
  cases x with
  | i n =>
    obtain ⟨h1, h2⟩ : -99999 ≤ n ∧ n ≤ 99999 := of_decide_eq_true h
    refine ⟨?_, by simp only [aD, PyData.hasDict], by simp only [aD, PyData.depth]; omega, ?_, by simp only [aD, PyData.canLay0]⟩
    · simp only [aD, PyData.showable]
      exact decide_eq_true (aT_len h).1
    · have := (aT_len (x := .i n) h).2
      simp only [aD, PyData.shown]
      rcases (show n < 0 ∨ 0 ≤ n by omega) with hn | hn
      · obtain ⟨m, rfl⟩ : ∃ m : Nat, n = -((m : Nat) : Int) := ⟨n.natAbs, by omega⟩
        have e := congrArg List.length (neg_list (n := m) (by omega))
        rw [Array.length_toList, List.length_cons] at e
        have := (numT_dig (show m ≤ 99999 by omega)).2.1
        show (Str.ofString (toString (-((m : Nat) : Int)))).cps.size ≤ 202
        omega
      · obtain ⟨m, rfl⟩ : ∃ m : Nat, n = ((m : Nat) : Int) := ⟨n.natAbs, by omega⟩
        have := (Fit.num (n := m) (by omega)).ln
        simp only [PyData.shown] at this
        omega
  | s z =>
    unfold aB strV at h
    rw [Bool.and_eq_true, List.all_eq_true] at h
    refine Fit.str (n := 20) (of_decide_eq_true h.1) fun c hc => ?_
    have := h.2 c hc
    unfold mayC at this
    have := of_decide_eq_true this
    omega
theorem ag_sh {o : Option (List AV)} (h : ∀ ad, o = some ad → argsB ad = true) : Fit (agD o) 1 1000 := by
  cases o with
  | none => exact Fit.none.more (by decide) (by decide)
  | some ad =>
    have q := argsB_sm (h ad rfl)
    have := Fit.tup (ds := ad.map aD) (k := 0) (B := 202) fun d hd => by
      obtain ⟨x, hx, rfl⟩ := List.mem_map.mp hd
      exact aB_fit (q.2 x hx)
    refine this.more (by decide) ?_
    rw [List.length_map]
    have := q.1
    omega
theorem od_sh {o : Option Nat} (h : ∀ n, o = some n → n ≤ 99999) : Fit (oD o) 1 1000 := by
  cases o with
  | none => exact Fit.none.more (by decide) (by decide)
  | some n => exact (Fit.num (h n rfl)).more (by decide) (by decide)
theorem numO_le {L : List Nat} {m len : Nat} : ∀ n, numO L m len = some n → n ≤ m := by
  intro n h
  unfold numO at h
  split at h
  · rename_i z
    cases h
    exact z.2.2
  · cases h
theorem Fit.shaped {d : PyData} {k B : Nat} (f : Fit d k B) (h : k ≤ 64) : SeqAt.shaped d = true := by
  unfold SeqAt.shaped
  rw [f.cl, decide_eq_true (Nat.le_trans f.dp h)]
  rfl
section
variable {P : Program} {w : World} {K : PySem.W.Frag} {mg : Str → Option Value} {base : Heap} {PN PV : Addr}
def callR (oh on : Option Nat) (m f : Str) (o : Option (List AV)) : Option Rec := match oh with | none => none | some h => match on with | none => none | some n => match o with | none => none | some ad => some (.call h n m f ad)
theorem callN_R {a b m f : List Nat} {o : Option (List AV)} (hm : nameB (S m) = true) (hf : nameB (S f) = true) : callN a b m f o = callR (numO a 2 1) (numO b 9999 4) (S m) (S f) o := by
  unfold callN
  rw [hm, hf]
  rfl
def callP : List (List Nat) → Option Rec
  | [a, b, m, f] => callN a b m f (some [])
  | [a, b, m, f, g] => callN a b m f (valsM g)
  | _ => none
def spCallOf (PN PV : Addr) : L2.Sp := fun vs H Q _ => ∃ L : List Nat, vs = [.str (S L)] ∧ L.length ≤ 5000 ∧ (∀ c ∈ L, c < 128) ∧ T2 PN PV H ∧
  ∀ H', ST PN PV H H' → (callM L = none → Q .non H') ∧ ∀ x r, callM L = some x → RecAt H' r x → Q (.ref r) H'
theorem scCallOf : FnScope ["rest", "parts", "holder", "number", "arguments"] ["rest"] (defScope sCallOf) := ⟨rfl, rfl, rfl, by decide +kernel, rfl, by decide +kernel, by decide +kernel⟩
theorem ok_callOf {f f1 f2 f3 : Addr} {fd fd1 fd2 fd3 : FuncData} (F : Fun K "call_of" "call_of" sCallOf f fd) (T : Txt K mg) (ne : PN ≠ PV)
    (TH : ∃ t, mg "HOLDERS_MOST" = some (.int 3 t)) (TC : ∃ t, mg "COUNT_MOST" = some (.int 9999 t))
    (FN : FO P w K mg base CX0 1 "is_name" ["text"] (spName PN) f1 fd1) (FO_ : FO P w K mg base CX0 1 "number_of" ["text", "most"] spNumOf f2 fd2) (FV : FO P w K mg base CX0 6 "values_of" ["text"] (spValsOf PN PV) f3 fd3) : FnOk P w K mg base CX0 7 f fd ["rest"] (spCallOf PN PV) := by
  have sc := scCallOf
  have T3 := T
  obtain ⟨t1, gHM⟩ := TH
  obtain ⟨t2, gCM⟩ := TC
  refine F.ok sc (fun vs H Q E h => ?_) (fun cdv A outer s H vs Q E hr h => ?_)
  · obtain ⟨L, rfl, _⟩ := h
    rfl
  · obtain ⟨L, rfl, hl, ha, t2, q⟩ := h
    have hu65 : (A.deeper (envOfC "call_of" (defScope sCallOf) s.heap.objs.size f cdv)).units + 65 < cLine := by have := hr.un; omega
    refine ⟨_, (pss_cons (ps_set (i := 1) sc.nd rfl (Or.inl rfl) (pe_bm PySem.F.plainAttrs_str PySem.F.slot_str_split PySem.F.type_str_split mt_splitMax (pv 0) (pa_cons pe_str (pa_cons pe_int pa_nil))))
      (pss_cons (ps_if (PW.pt (pw_or (pt_cmpR op_lt (pe_callB call_len_seq (by rfl) T.len (by decide +kernel) (pa_cons (pv 1) pa_nil)) pe_int (nomark _)) (pw_or (pt_not (pt_val (pe_call FN.ok (hr.mono (by decide)) (by rfl) FN.m FN.kp FN.b .nil pass0 (pa_cons (pe_ix ix_list (pv 1) pe_int (fun _ _ => rfl)) pa_nil)))) (pw_or1 (pt_not (pt_val (pe_call FN.ok (hr.mono (by decide)) (by rfl) FN.m FN.kp FN.b .nil pass0 (pa_cons (pe_ix ix_list (pv 1) pe_int (fun _ _ => rfl)) pa_nil))))))))
      (pss_one (ps_ret pe_non))
      pss_nil)
      (pss_cons (ps_par (i := 2) (j := 3) (by rfl) sc.nd rfl rfl (by decide) rfl rfl (pa_cons (pe_call FO_.ok (hr.mono (by decide)) (by rfl) FO_.m FO_.kp FO_.b .nil pass0 (pa_cons (pe_ix ix_list (pv 1) pe_int (fun _ _ => rfl)) (pa_cons (pe_op op_sub (pe_gint rfl gHM) pe_int) pa_nil))) (pa_cons (pe_call FO_.ok (hr.mono (by decide)) (by rfl) FO_.m FO_.kp FO_.b .nil pass0 (pa_cons (pe_ix ix_list (pv 1) pe_int (fun _ _ => rfl)) (pa_cons (pe_gint rfl gCM) pa_nil))) pa_nil)) (by rfl))
      (pss_cons (ps_set (i := 4) sc.nd rfl (Or.inl rfl) (pe_ifExp (pt_cmpR op_eq (pe_callB call_len_seq (by rfl) T.len (by decide +kernel) (pa_cons (pv 1) pa_nil)) pe_int (nomark _)) (pe_call FV.ok hr (by rfl) FV.m FV.kp FV.b .nil pass0 (pa_cons (pe_ix ix_list (pv 1) pe_int (fun _ _ => rfl)) pa_nil)) (pe_tup pa_nil)))
      (pss_cons (ps_if (pt_cmpR (op_inDT hu65) pe_non (pe_tup (pa_cons (pv 2) (pa_cons (pv 3) (pa_cons (pv 4) pa_nil)))) rfl)
      (pss_one (ps_ret pe_non))
      pss_nil)
      (pss_one (ps_ret (pe_tup (pa_cons pe_str (pa_cons (pv 2) (pa_cons (pv 3) (pa_cons (pe_ix ix_list (pv 1) pe_int (fun _ _ => rfl)) (pa_cons (pe_ix ix_list (pv 1) pe_int (fun _ _ => rfl)) (pa_cons (pv 4) pa_nil)))))))))))))), ?_⟩
    have sl : Txt.splitMax (S L) (Str.ofString " ") 4 = (spl 32 4 L []).map S := splitMax_list L (by decide) 4
    have pm := spl_mem 32 L 4 []
    have pc := spl_count 32 L 4 []
    have pl : ∀ p ∈ spl 32 4 L [], p.length ≤ 5000 ∧ ∀ c ∈ p, c < 128 := fun p hp => ⟨by have := (pm p hp).2; rw [List.length_nil] at this; omega, fun c hc => ha c (((pm p hp).1 c hc).elim (fun z => (by cases z)) id)⟩
    refine ⟨_, rfl, rfl, _, _, _, rfl, rfl, rfl, (by decide), (by decide), Nat.le_trans (m := 6000) (by rw [S_len]; omega) (by decide), fun D nD => ?_⟩
    rw [sl]
    obtain ⟨ps, hps⟩ : ∃ ps, ps = spl 32 4 L [] := ⟨_, rfl⟩
    rw [← hps] at pl pc sl ⊢
    have s1 := Same.lst (o := .lst ((ps.map S).map V.str)) (Same.refl H) nD
    have eD : upd H D (.lst ((ps.map S).map V.str)) D = some (.lst ((ps.map S).map V.str)) := upd_same
    generalize upd H D (.lst ((ps.map S).map V.str)) = H1 at *
    have lps : ((ps.map S).map V.str).length = ps.length := by rw [List.length_map, List.length_map]
    have st1 := t2.st s1
    have it : ∀ {H' : Hp} {i : Nat} {p : List Nat}, ST PN PV H1 H' → ps[i]? = some p → SqL K H' D ((ps.map S).map V.str) ∧ atI ((ps.map S).map V.str) (i : Int) = some (.str (S p)) := fun s e => ⟨SqL.of (s.k _ _ (fun _ z => by cases z) eD), atI_nat (by rw [List.getElem?_map, List.getElem?_map, e]; rfl)⟩
    have ec : callM L = callP ps := by rw [hps]; rfl
    refine gn ?_
    refine nxp ?_
    refine ⟨_, rfl, D, _, rfl, .inl (SqL.of eD), _, _, rfl, rfl, _, rfl, ?_⟩
    rw [lps]
    refine ite2 (fun h => ?_) (fun h => ?_)
    · have h := of_decide_eq_true h
      refine (q _ st1).1 ?_
      rw [ec]
      rcases ps with _ | ⟨a, _ | ⟨b, _ | ⟨m, _ | ⟨f, r⟩⟩⟩⟩ <;> first | rfl | (exfalso; simp only [List.length_cons] at h; omega)
    · have h4 : 4 ≤ ps.length := by
        have : ¬ ((ps.length : Int) < 4) := fun z => h (decide_eq_true z)
        omega
      obtain ⟨a, b, m, f, r, rfl, hr1⟩ : ∃ a b m f r, ps = a :: b :: m :: f :: r ∧ r.length ≤ 1 := by
        rcases ps with _ | ⟨a, _ | ⟨b, _ | ⟨m, _ | ⟨f, r⟩⟩⟩⟩
        · exact absurd h4 (by simp)
        · exact absurd h4 (by simp)
        · exact absurd h4 (by simp)
        · exact absurd h4 (by simp)
        · exact ⟨a, b, m, f, r, rfl, by have := pc.2; simp only [List.length_cons] at this; omega⟩
      have r1 := st1.t.st (Same.refl H1)
      have small : ∀ p ∈ a :: b :: m :: f :: r, (S p).length ≤ 5000 := fun p hp => by rw [S_len]; exact (pl p hp).1
      refine ⟨_, rfl, D, _, _, _, rfl, rfl, (it r1 (i := 2) rfl).1, (it r1 (i := 2) rfl).2, S m, rfl, small m (by simp), st1.t.n, fun H2 k2 => ?_⟩
      have s2 := st1.t.kpN ne k2
      have bad : (nameB (S m) && nameB (S f)) = false → callM L = none := fun hb => by
        have : ∀ o, callN a b m f o = none := fun o => by unfold callN; rw [hb]; rfl
        rw [ec]
        rcases r with _ | ⟨g, _ | ⟨e, r⟩⟩
        · exact this (some [])
        · exact this (valsM g)
        · rfl
      cases hm : nameB (S m) with
      | false => exact ⟨_, rfl, (q _ (st1.trans s2)).1 (bad (by rw [hm]; rfl))⟩
      | true =>
      refine ⟨_, rfl, iteF ?_⟩
      refine ⟨_, rfl, D, _, _, _, rfl, rfl, (it s2 (i := 3) rfl).1, (it s2 (i := 3) rfl).2, S f, rfl, small f (by simp), s2.t.n, fun H3 k3 => ?_⟩
      have s3 := s2.trans (s2.t.kpN ne k3)
      cases hf : nameB (S f) with
      | false => exact ⟨_, rfl, (q _ (st1.trans s3)).1 (bad (by rw [hm, hf]; rfl))⟩
      | true =>
      refine ⟨_, rfl, ?_⟩
      refine iteF ?_
      have ca : ∀ p ∈ a :: b :: m :: f :: r, ∀ c ∈ (S p).cps.toList, c < 128 := fun p hp => (pl p hp).2
      have d1 : (Str.ofString (toString ((2 : Nat) : Int))).length = 1 := by decide +kernel
      have d2 : (Str.ofString (toString ((9999 : Nat) : Int))).length = 4 := by decide +kernel
      refine ⟨_, rfl, D, _, _, _, rfl, rfl, (it s3 (i := 0) rfl).1, (it s3 (i := 0) rfl).2, _, _, rfl, rfl, S a, 2, 1, rfl, small a (by simp), ca a (by simp), by decide, d1, by decide, ?_⟩
      refine ⟨_, rfl, D, _, _, _, rfl, rfl, (it s3 (i := 1) rfl).1, (it s3 (i := 1) rfl).2, S b, 9999, 4, rfl, small b (by simp), ca b (by simp), by decide, d2, by decide, ?_⟩
      rw [numB_O, numB_O]
      refine ⟨_, _, rfl, ?_⟩
      refine nxp ?_
      refine seq_mid (A := tAsg _ _) (fun σ' H' => ∃ (v : V) (o : Option (List AV)), σ' = [some (.str (S L)), some (.ref D), some (oV (numO a 2 1)), some (oV (numO b 9999 4)), some v] ∧ ST PN PV H1 H' ∧ ArgV H' v o ∧ (∀ ad, o = some ad → argsB ad = true) ∧ callM L = callN a b m f o) ?_ (fun mid => ?_)
      rotate_left
      · refine ⟨_, rfl, D, _, rfl, .inl (it s3 (i := 0) rfl).1, rfl, _, rfl, ?_⟩
        rcases r with _ | ⟨g, _ | ⟨e, r⟩⟩
        · refine iteF ?_
          refine ⟨Nat.zero_le _, fun p np => ?_⟩
          exact mid _ _ ⟨_, some [], rfl, s3.trans (s3.t.st (Same.lst (Same.refl _) np)), ⟨p, rfl, upd_same⟩, fun ad e => by cases e; rfl, ec⟩
        · refine iteT ?_
          refine ⟨_, rfl, D, _, _, _, rfl, rfl, (it s3 (i := 4) rfl).1, (it s3 (i := 4) rfl).2, g, _, rfl, (pl g (by simp)).1, s3.t, lexF_ok g.length g (Nat.le_refl _), fun H4 s4 => ⟨fun hn => ?_, fun ts rr ho hb hr => ?_⟩⟩
          · refine mid _ _ ⟨_, none, rfl, s3.trans s4, rfl, (fun ad e => by cases e), ?_⟩
            rw [ec]
            show callN a b m f (valsM g) = _
            have : valsM g = none := by
              unfold valsM
              rcases hn with hn | ⟨ts, h1, h2⟩
              · rw [hn]
              · rw [h1]
                show (if argsB (mkAV 1 ts) = true then some (mkAV 1 ts) else none) = none
                rw [h2]
                rfl
            rw [this]
          · refine mid _ _ ⟨_, some (mkAV 1 ts), rfl, s3.trans s4, ⟨rr, rfl, hr⟩, (fun ad e => by cases e; exact hb), ?_⟩
            rw [ec]
            show callN a b m f (valsM g) = _
            have : valsM g = some (mkAV 1 ts) := by
              unfold valsM
              rw [ho]
              show (if argsB (mkAV 1 ts) = true then some (mkAV 1 ts) else none) = _
              rw [hb]
              rfl
            rw [this]
        · exact absurd hr1 (by simp)
      rintro σ' H4 ⟨v, o, rfl, s4, av, hob, ek⟩
      generalize hoh : numO a 2 1 = oh at *
      generalize hon : numO b 9999 4 = on at *
      refine ⟨_, rfl, _, rfl, _, rfl, (show 3 ≤ sizeLine by decide), fun tp ntp => ?_⟩
      have s5 := s4.trans (s4.t.st (Same.lst (o := .tup [oV oh, oV on, v]) (Same.refl _) ntp))
      have av5 : ArgV (upd H4 tp (.tup [oV oh, oV on, v])) v o := by
        cases o with
        | none => exact av
        | some ad =>
          obtain ⟨aa, rfl, e⟩ := av
          exact ⟨aa, rfl, by rw [upd_ne (ne_of_none e ntp)]; exact e⟩
      have etp : (upd H4 tp (.tup [oV oh, oV on, v])) tp = some (.tup [oV oh, oV on, v]) := upd_same
      generalize (upd H4 tp (.tup [oV oh, oV on, v])) = H5 at *
      have f1 := od_sh (o := oh) fun n e => Nat.le_trans (numO_le n (hoh.trans e)) (by decide)
      have f2 := od_sh (o := on) fun n e => Nat.le_trans (numO_le n (hon.trans e)) (by decide)
      have f3 := ag_sh hob
      have f4 : Fit (.tuple [oD oh, oD on, agD o]) 2 4000 := (Fit.tup (ds := [oD oh, oD on, agD o]) (k := 1) (B := 1000) fun d hd => by
        rcases List.mem_cons.mp hd with rfl | hd
        · exact f1
        rcases List.mem_cons.mp hd with rfl | hd
        · exact f2
        rw [List.mem_singleton.mp hd]
        exact f3).more (by decide) (Nat.le_of_ble_eq_true rfl)
      refine ⟨.none, [oD oh, oD on, agD o], .non, .tup (SqT.of etp) (.cons (oD_dp oh) (.cons (oD_dp on) (.cons (agD_dp av5) .nil))), Fit.none.shaped (by decide), f4.shaped (by decide), ?_⟩
      refine ⟨_, rfl, ?_⟩
      have ek2 : callM L = callR oh on (S m) (S f) o := by rw [ek, callN_R hm hf, hoh, hon]
      have sa := st1.trans s5
      cases oh with
      | none => exact iteY (by simp [PyData.eqv, oD]) ((q _ sa).1 ek2)
      | some h0 =>
      cases on with
      | none => exact iteY (by simp [PyData.eqv, oD]) ((q _ sa).1 ek2)
      | some n0 =>
      cases o with
      | none => exact iteY (by simp [PyData.eqv, agD]) ((q _ sa).1 ek2)
      | some ad =>
      refine iteE (by simp [PyData.eqv, agD, oD]) ?_
      refine ⟨_, rfl, _, rfl, _, rfl, D, _, _, _, rfl, rfl, (it s5 (i := 2) rfl).1, (it s5 (i := 2) rfl).2, ?_⟩
      refine ⟨_, rfl, D, _, _, _, rfl, rfl, (it s5 (i := 3) rfl).1, (it s5 (i := 3) rfl).2, ?_⟩
      refine ⟨_, rfl, (show 6 ≤ sizeLine by decide), fun p np => ?_⟩
      obtain ⟨aa, rfl, ea⟩ := av5
      refine (q _ (sa.trans (s5.t.st (Same.lst (Same.refl _) np)))).2 _ p ek2 ⟨aa, upd_same, fun l hl => ?_⟩
      cases hl
      rw [upd_ne (ne_of_none ea np)]
      exact ea
end
end K6

set_option maxRecDepth 100000
set_option maxHeartbeats 4000000
/-! record_of, read_record -/
namespace K6
open PySem hiding Tok code
open PySem.Spec PyProof.Rows GD K1
open L2 hiding rest
abbrev sRecOf : Stmt := topS 33
abbrev sRead : Stmt := topS 32
section
variable {P : Program} {w : World} {K : PySem.W.Frag} {mg : Str → Option Value} {base : Heap} {PN PV : Addr}
theorem RecAt.up {H H' : Hp} {r : Addr} {x : Rec} (h : RecAt H r x) (s : Same H H') : RecAt H' r x := by
  obtain ⟨a, e1, e2⟩ := h
  exact ⟨a, s _ _ e1, fun l hl => s _ _ (e2 l hl)⟩
def spRecOf (PN PV : Addr) : L2.Sp := fun vs H Q _ => ∃ (wd : Str) (L : List Nat), vs = [.str wd, .str (S L)] ∧ L.length ≤ 5000 ∧ (∀ c ∈ L, c < 128) ∧ T2 PN PV H ∧
  ∀ H', ST PN PV H H' → (recM wd L = none → Q .non H') ∧ ∀ x r, recM wd L = some x → RecAt H' r x → Q (.ref r) H'
theorem scRecOf : FnScope ["word", "rest", "names", "many"] ["word", "rest"] (defScope sRecOf) := ⟨rfl, rfl, rfl, by decide +kernel, rfl, by decide +kernel, by decide +kernel⟩
theorem ok_recOf {f f1 f2 f3 f4 f5 : Addr} {fd fd1 fd2 fd3 fd4 fd5 : FuncData} (F : Fun K "record_of" "record_of" sRecOf f fd) (T : Txt K mg) (T2 : TB mg) (ne : PN ≠ PV)
    (TX : ∃ t, mg "CHANGES_MOST" = some (.int 8 t))
    (FE : FO P w K mg base CX0 3 "are_entries" ["names"] (spAreE K PN) f1 fd1) (FT : FO P w K mg base CX0 2 "text_of" ["rest"] (spTextOf PN) f2 fd2)
    (FN : FO P w K mg base CX0 1 "is_name" ["text"] (spName PN) f3 fd3) (FO_ : FO P w K mg base CX0 1 "number_of" ["text", "most"] spNumOf f4 fd4) (FC : FO P w K mg base CX0 7 "call_of" ["rest"] (spCallOf PN PV) f5 fd5) : FnOk P w K mg base CX0 8 f fd ["word", "rest"] (spRecOf PN PV) := by
  have sc := scRecOf
  have T3 := T
  obtain ⟨t1, gXM⟩ := TX
  refine F.ok sc (fun vs H Q E h => ?_) (fun cdv A outer s H vs Q E hr h => ?_)
  · obtain ⟨wd, L, rfl, _⟩ := h
    rfl
  · obtain ⟨wd, L, rfl, hl, ha, t2, q⟩ := h
    refine ⟨_, (pss_cons (ps_if (pt_cmpR op_eq (pv 0) pe_str (nomark _))
      (pss_cons (ps_set (i := 2) sc.nd rfl (Or.inl rfl) (pe_callTy call_tuple_of (by rfl) T2.btuple (by decide +kernel) (pa_cons (pe_split (pv 1) pe_str) pa_nil)))
      (pss_one (ps_ret (pe_ifExp (pt_val (pe_call FE.ok (hr.mono (by decide)) (by rfl) FE.m FE.kp FE.b .nil pass0 (pa_cons (pv 2) pa_nil))) (pe_tup (pa_cons pe_str (pa_cons (pv 2) pa_nil))) pe_non))))
      pss_nil)
      (pss_cons (ps_if (pt_cmpR op_eq (pv 0) pe_str (nomark _))
      (pss_one (ps_ret (pe_call FT.ok (hr.mono (by decide)) (by rfl) FT.m FT.kp FT.b .nil pass0 (pa_cons (pv 1) pa_nil))))
      pss_nil)
      (pss_cons (ps_if (pt_cmpR op_eq (pv 0) pe_str (nomark _))
      (pss_one (ps_ret (pe_ifExp (pt_val (pe_call FN.ok (hr.mono (by decide)) (by rfl) FN.m FN.kp FN.b .nil pass0 (pa_cons (pv 1) pa_nil))) (pe_tup (pa_cons pe_str (pa_cons (pv 1) pa_nil))) pe_non)))
      pss_nil)
      (pss_cons (ps_if (pt_cmpR op_eq (pv 0) pe_str (nomark _))
      (pss_cons (ps_set (i := 3) sc.nd rfl (Or.inl rfl) (pe_call FO_.ok (hr.mono (by decide)) (by rfl) FO_.m FO_.kp FO_.b .nil pass0 (pa_cons (pv 1) (pa_cons (pe_gint rfl gXM) pa_nil))))
      (pss_one (ps_ret (pe_ifExp (pt_cmpR op_isN (pv 3) pe_non (nomark _)) pe_non (pe_tup (pa_cons pe_str (pa_cons (pv 3) pa_nil)))))))
      pss_nil)
      (pss_one (ps_ret (pe_ifExp (pt_cmpR op_eq (pv 0) pe_str (nomark _)) (pe_call FC.ok hr (by rfl) FC.m FC.kp FC.b .nil pass0 (pa_cons (pv 1) pa_nil)) pe_non))))))), ?_⟩
    have r0 := t2.st (Same.refl H)
    have yes : ∀ {x : Str}, decide (V.str wd = V.str x) = true → wd = x := fun h => by injection of_decide_eq_true h
    have no : ∀ {x : Str}, ¬ decide (V.str wd = V.str x) = true → ¬ wd = x := fun h z => h (decide_eq_true (by rw [z]))
    have sL : (S L).length ≤ 5000 := by rw [S_len]; exact hl
    refine ⟨_, rfl, rfl, _, rfl, ite2 (fun h => ?_) (fun n1 => ?_)⟩
    · have ew := yes h
      have er : recM wd L = entM L := by unfold recM; rw [if_pos ew]
      refine ⟨_, rfl, ⟨_, rfl⟩, S L, _, rfl, rfl, by decide, Nat.le_trans (m := 6000) (by omega) (by decide), fun D nD => ?_⟩
      have es : Txt.split (S L) (Str.ofString " ") = (spl 32 (L.length + 1) L []).map S := split_list L (by decide)
      rw [es]
      unfold entM at er
      obtain ⟨xs, hxs⟩ : ∃ xs, xs = (spl 32 (L.length + 1) L []).map S := ⟨_, rfl⟩
      rw [← hxs] at er ⊢
      have s1 := Same.lst (o := .lst (xs.map V.str)) (Same.refl H) nD
      have eD : upd H D (.lst (xs.map V.str)) D = some (.lst (xs.map V.str)) := upd_same
      generalize upd H D (.lst (xs.map V.str)) = H1 at *
      refine ⟨D, _, rfl, .inl ⟨SqL.of eD, fun l nl => ?_⟩⟩
      have s2 := snew (o := .tup (xs.map V.str)) s1 nl
      have el : upd H1 l (.tup (xs.map V.str)) l = some (.tup (xs.map V.str)) := upd_same
      generalize upd H1 l (.tup (xs.map V.str)) = H2 at *
      have st2 := t2.st s2
      refine ⟨_, rfl, l, xs, rfl, el, st2.t.n, fun z hz => ?_, fun H3 k3 => ?_⟩
      · rw [hxs] at hz
        obtain ⟨p, hp, rfl⟩ := List.mem_map.mp hz
        have := (spl_mem 32 L _ [] p hp).2
        rw [List.length_nil] at this
        rw [S_len]
        omega
      · have s3 := st2.t.kpN ne k3
        have el3 := s3.k _ _ (fun _ z => by cases z) el
        refine ⟨_, rfl, ?_⟩
        by_cases hb : (decide (0 < xs.length) && namsB xs 3) = true
        · refine iteY hb ?_
          rw [if_pos hb] at er
          refine ⟨_, rfl, two_le, fun p np => ?_⟩
          refine (q _ (st2.trans (s3.trans (s3.t.st (Same.lst (Same.refl _) np))))).2 _ p er ⟨l, upd_same, fun v hv => ?_⟩
          cases hv
          rw [upd_ne (ne_of_none el3 np)]
          exact el3
        · refine iteE (Bool.eq_false_iff.mpr hb) ?_
          rw [if_neg hb] at er
          exact (q _ (st2.trans s3)).1 er
    refine ⟨_, rfl, rfl, _, rfl, ite2 (fun h => ?_) (fun n2 => ?_)⟩
    · have ew := yes h
      have er : recM wd L = textM L := by unfold recM; rw [if_neg (no n1), if_pos ew]
      unfold textM at er
      have pp := partition_list L (c := 32)
      have pm := parL_mem 32 L
      obtain ⟨p1, p2⟩ := pp
      have p1 : (Txt.partition (S L) (Str.ofString " ")).1 = S (parL 32 L).1 := p1
      have p2 : (Txt.partition (S L) (Str.ofString " ")).2.2 = S (parL 32 L).2 := p2
      have e600 : (S (parL 32 L).2).length = (parL 32 L).2.length := S_len _
      refine ⟨_, rfl, S L, rfl, sL, by rw [p1, S_len]; omega, by rw [p2, S_len]; omega, t2.n, fun hb H1 k1 => ?_, fun hb hl6 H1 r k1 hr => ?_⟩
      · rw [p1, p2, e600] at hb
        refine (q _ (t2.kpN ne k1)).1 ?_
        rw [er, if_neg]
        rintro ⟨z1, z2⟩
        rcases hb with hb | hb
        · rw [hb] at z1; cases z1
        · omega
      · rw [p1] at hb
        rw [p2, e600] at hl6
        rw [p1, p2] at hr
        rw [if_pos ⟨hb, hl6⟩] at er
        refine (q _ (t2.kpN ne k1)).2 _ r er ⟨0, ?_, fun l hl => by cases hl⟩
        rw [hr]
        have : Txt.replace (S (parL 32 L).2) (Str.ofString "|") (Str.ofString "\n") = S ((parL 32 L).2.map fun d => if d = 124 then 10 else d) := repl_list _ 124 10
        rw [this]
        rfl
    refine ⟨_, rfl, rfl, _, rfl, ite2 (fun h => ?_) (fun n3 => ?_)⟩
    · have ew := yes h
      have er : recM wd L = (if nameB (S L) = true then some (.rem (S L)) else none) := by unfold recM; rw [if_neg (no n1), if_neg (no n2), if_pos ew]
      refine ⟨_, rfl, S L, rfl, sL, t2.n, fun H1 k1 => ?_⟩
      have s1 := t2.kpN ne k1
      refine ⟨_, rfl, ?_⟩
      by_cases hb : nameB (S L) = true
      · refine iteY hb ?_
        rw [if_pos hb] at er
        refine ⟨_, rfl, two_le, fun p np => ?_⟩
        exact (q _ (s1.trans (s1.t.st (Same.lst (Same.refl _) np)))).2 _ p er ⟨0, upd_same, fun v hv => by cases hv⟩
      · refine iteE (Bool.eq_false_iff.mpr hb) ?_
        rw [if_neg hb] at er
        exact (q _ s1).1 er
    refine ⟨_, rfl, rfl, _, rfl, ite2 (fun h => ?_) (fun n4 => ?_)⟩
    · have ew := yes h
      have er : recM wd L = (match numO L 8 1 with | none => none | some n => some (.upd n)) := by unfold recM; rw [if_neg (no n1), if_neg (no n2), if_neg (no n3), if_pos ew]; all_goals rfl
      refine ⟨_, rfl, S L, 8, 1, rfl, sL, ha, by decide, (by decide +kernel), by decide, ?_⟩
      rw [numB_O]
      cases hn : numO L 8 1 with
      | none =>
        rw [hn] at er
        refine ⟨_, rfl, rfl, _, rfl, iteT ?_⟩
        exact (q _ r0).1 er
      | some n =>
        rw [hn] at er
        refine ⟨_, rfl, rfl, _, rfl, iteF ?_⟩
        refine ⟨_, rfl, two_le, fun p np => ?_⟩
        exact (q _ (t2.st (Same.lst (Same.refl _) np))).2 _ p er ⟨0, upd_same, fun v hv => by cases hv⟩
    refine ⟨_, rfl, rfl, _, rfl, ite2 (fun h => ?_) (fun n5 => ?_)⟩
    · have ew := yes h
      have er : recM wd L = callM L := by unfold recM; rw [if_neg (no n1), if_neg (no n2), if_neg (no n3), if_neg (no n4), if_pos ew]
      refine ⟨_, rfl, L, rfl, hl, ha, t2, fun H1 s1 => ?_⟩
      rw [← er]
      exact q _ s1
    · have er : recM wd L = none := by unfold recM; rw [if_neg (no n1), if_neg (no n2), if_neg (no n3), if_neg (no n4), if_neg (no n5)]
      exact (q _ r0).1 er
def spRead (PN PV : Addr) : L2.Sp := fun vs H Q _ => ∃ L : List Nat, vs = [.str (S L)] ∧ L.length ≤ 5000 ∧ T2 PN PV H ∧
  ∀ H', ST PN PV H H' → (readM L = none → Q .non H') ∧ ∀ x r, readM L = some x → RecAt H' r x → Q (.ref r) H'
theorem scRead : FnScope ["text", "character", "word", "_", "rest", "record"] ["text"] (defScope sRead) := ⟨rfl, rfl, rfl, by decide +kernel, rfl, by decide +kernel, by decide +kernel⟩
theorem ok_read {f f1 f2 : Addr} {fd fd1 fd2 : FuncData} (F : Fun K "read_record" "read_record" sRead f fd) (T : Txt K mg) (TCH : ∃ t, mg "CHARACTERS" = some (.str CHS t))
    (FR : FO P w K mg base CX0 8 "record_of" ["word", "rest"] (spRecOf PN PV) f1 fd1) (FW : FO P w K mg base CX0 2 "write_record" ["record"] spWRec f2 fd2) : FnOk P w K mg base CX0 9 f fd ["text"] (spRead PN PV) := by
  have sc := scRead
  have T3 := T
  obtain ⟨t1, gCH⟩ := TCH
  refine F.ok sc (fun vs H Q E h => ?_) (fun cdv A outer s H vs Q E hr h => ?_)
  · obtain ⟨L, rfl, _⟩ := h
    rfl
  · obtain ⟨L, rfl, hl, t2, q⟩ := h
    refine ⟨_, (pss_cons (ps_if (pt_not (pt_val (pe_callB (cr_all rfl) (by rfl) T3.all (by decide +kernel) (pa_cons (pe_lc (own := [("character", 1)]) rfl sc.nd (pi_str (pv 0)) (blkOk_by (own := [("character", 1)]) (N := ["text", "character", "word", "_", "rest", "record"]) (sc := defScope sRead) (by decide +kernel)) (fun _ _ _ _ _ => (pg_name (i := 1) sc.nd rfl (Or.inl rfl))) (fun _ _ _ _ _ => pts_nil) (fun _ _ _ _ _ => (pe_cmpR op_in_sign (pv 1) (pe_gstr rfl gCH) rfl))) pa_nil))))
      (pss_one (ps_ret pe_non))
      pss_nil)
      (pss_cons (ps_asg (pe_partition (pv 0) pe_str) (pg_tup rfl (pgs_cons (pg_name (i := 2) sc.nd rfl (Or.inl rfl)) (pgs_cons (pg_name (i := 3) sc.nd rfl (Or.inl rfl)) (pgs_cons (pg_name (i := 4) sc.nd rfl (Or.inl rfl)) pgs_nil)))))
      (pss_cons (ps_set (i := 5) sc.nd rfl (Or.inl rfl) (pe_call FR.ok hr (by rfl) FR.m FR.kp FR.b .nil pass0 (pa_cons (pv 2) (pa_cons (pv 4) pa_nil))))
      (pss_one (ps_ret (pe_ifExp (PW.pt (pw_and (pt_cmpR op_notN (pv 5) pe_non (nomark _)) (pw_and1 (pt_cmpR op_eq (pe_call FW.ok (hr.mono (by decide)) (by rfl) FW.m FW.kp FW.b .nil pass0 (pa_cons (pv 5) pa_nil)) (pv 0) (nomark _))))) (pv 5) pe_non)))))), ?_⟩
    have r0 := t2.st (Same.refl H)
    have sL : (S L).length ≤ 5000 := by rw [S_len]; exact hl
    refine ⟨_, rfl, _, rfl, fun l nl => ?_⟩
    have lz : (S L).cps.size = L.length := S_len L
    refine lc_it (walk_str (z := S L)) (fun j H' => Same H H' ∧ H' l = some (.lst (((L.take j).map isCh).map V.bl))) ⟨Same.lst (Same.refl _) nl, upd_same⟩ (fun i H' _ pv => trivial) (fun j x H2 H3 hj pv y => ?_) (fun H2 pv => ?_)
    · obtain ⟨rfl, c, hc, rfl⟩ := y
      obtain ⟨s2, el⟩ := pv
      have hc' : L[j]? = some c := by
        rw [← hc]
        show L[j]? = (L.toArray)[j]?
        simp
      refine ⟨rfl, _, rfl, c, CHS, rfl, rfl, _, el, ?_, swr s2 nl el, ?_⟩
      · rw [List.length_map, List.length_map, List.length_take]
        exact szlt (by omega)
      · rw [upd_same, List.take_add_one, hc', List.map_append, List.map_append, chs_eq]
        rfl
    · rw [lz, List.take_length] at pv
      obtain ⟨s2, el⟩ := pv
      have st2 := t2.st s2
      refine ⟨l, L.map isCh, rfl, SqL.of el, ?_⟩
      have eb : (L.map isCh).all id = chsB L := by
        unfold chsB
        rw [List.all_map]
        rfl
      rw [eb]
      cases hb : chsB L with
      | false =>
        refine ⟨_, rfl, iteT ?_⟩
        exact (q _ st2).1 (by unfold readM; rw [hb]; rfl)
      | true =>
      refine ⟨_, rfl, iteF ?_⟩
      have a128 : ∀ c ∈ L, c < 128 := fun c hc => by
        unfold chsB at hb
        have := List.all_eq_true.mp hb c hc
        have := of_decide_eq_true this
        omega
      have pm := parL_mem 32 L
      obtain ⟨p1, p2⟩ := partition_list L (c := 32)
      have p1 : (Txt.partition (S L) (Str.ofString " ")).1 = S (parL 32 L).1 := p1
      have p2 : (Txt.partition (S L) (Str.ofString " ")).2.2 = S (parL 32 L).2 := p2
      refine ⟨_, rfl, ⟨_, rfl⟩, S L, _, rfl, rfl, by decide, szle sL, fun p np => ?_⟩
      rw [p1, p2]
      refine ⟨p, _, rfl, .inl (.inl upd_same), rfl, ?_⟩
      refine ⟨_, _, rfl, _, _, rfl, _, _, rfl, rfl, ?_⟩
      have st3 := st2.trans (st2.t.st (Same.lst (o := .tup [.str (S (parL 32 L).1), .str (Txt.partition (S L) (Str.ofString " ")).2.1, .str (S (parL 32 L).2)]) (Same.refl _) np))
      generalize (upd H2 p (.tup [.str (S (parL 32 L).1), .str (Txt.partition (S L) (Str.ofString " ")).2.1, .str (S (parL 32 L).2)])) = H3 at *
      have er : readM L = (match recM (S (parL 32 L).1) (parL 32 L).2 with | none => none | some x => if wR x = S L then some x else none) := by unfold readM; rw [hb]; rfl
      refine ⟨_, rfl, _, rfl, S (parL 32 L).1, (parL 32 L).2, rfl, by omega, fun c hc => a128 c (pm.2.1 c hc), st3.t, fun H4 s4 => ⟨fun hn => ?_, fun x r hx hr => ?_⟩⟩
      · rw [hn] at er
        refine ⟨_, rfl, rfl, _, rfl, ?_⟩
        refine iteF ?_
        refine iteF ?_
        exact (q _ (st3.trans s4)).1 er
      · rw [hx] at er
        have sm := recM_sm (by omega) hx
        refine ⟨_, rfl, rfl, _, rfl, ?_⟩
        refine iteT ?_
        refine ⟨_, rfl, r, x, rfl, hr, sm, fun H5 s5 => ?_⟩
        have st5 := st3.trans (s4.trans (s4.t.st s5))
        refine ⟨_, rfl, rfl, _, rfl, ite2 (fun h => ?_) (fun h => ?_)⟩
        · have e : wR x = S L := by injection of_decide_eq_true h
          have er : readM L = some x := er.trans (if_pos e)
          exact ⟨_, rfl, (q _ st5).2 x r er (hr.up s5)⟩
        · have er : readM L = none := er.trans (if_neg fun z => h (decide_eq_true (by rw [z])))
          exact (q _ st5).1 er
end
end K6

set_option maxRecDepth 100000
set_option maxHeartbeats 4000000
/-! the law's text of a record -/
namespace L2
open PySem hiding Tok code
open PySem.Spec PyProof.Rows
theorem pe_opCT {X : Cx} {op op2 : Operator} {r r2 : R2} {a f : Expr} {ta tf : TE} {x : Str} {j : Nat} {p pos1 pos : Pos} (ho : OpR X (binaryOp op) r) (ho2 : OpR X (binaryOp op2) r2) (ha : PE X a ta) (hf : PET X f tf) :
    PE X (.BinOp (.BinOp a op (.Constant (.str x) j p) pos1) op2 f pos) (tOp r2 (tOp r ta (tC (.str x))) tf) := by
  refine ⟨fun pins s σ H Q I h => wpAny_BinOp (wpAny_BinOp (thn (ha.run pins s σ H _ I h) fun v s1 ⟨y, H1, I1, r1, q1⟩ => Calls.Constant_str ?_))⟩
  refine wpAny_mono (PySem.wpAny_toks (ho pins { s1 with toks := s1.toks + 1 } σ H1 y (.str x) v _ _ (I1.tok _) r1 ⟨_, rfl⟩ q1)) (fun w s2 q => ?_) fun _ _ z => z.2
  obtain ⟨hk, z, H2, I2, r3, q3⟩ := q
  exact thn (hf pins s2 σ H2 _ (Nat.le_trans (Nat.le_add_left 1 _) hk) I2 q3) fun u s3 ⟨y2, H3, I3, r4, q4⟩ => ho2 pins s3 σ H3 z y2 w u Q I3 r3 r4 q4
end L2
namespace K6
open PySem hiding Tok code
open PySem.Spec PyProof.Rows GD K1
open L2 hiding rest
open TL (joinL tl_join)
abbrev sLRT : Stmt := topS 44
theorem str_eq {a b : Str} (h : a.cps.toList = b.cps.toList) : a = b := by
  apply Str.ext'
  exact Array.toList_inj.mp h
theorem add_list (a b : Str) : (a ++ b).cps.toList = a.cps.toList ++ b.cps.toList := by
  show (a.cps ++ b.cps).toList = _
  rw [Array.toList_append]
theorem add_len (a b : Str) : (a ++ b).length = a.length + b.length := by
  show (a.cps ++ b.cps).size = _
  rw [Array.size_append]
  rfl
section
variable {P : Program} {w : World} {K : PySem.W.Frag} {mg : Str → Option Value} {base : Heap} {PN PV : Addr}
theorem scLRT : FnScope ["record", "value"] ["record"] (defScope sLRT) := ⟨rfl, rfl, rfl, by decide +kernel, rfl, by decide +kernel, by decide +kernel⟩
theorem ok_lrt {f f1 : Addr} {fd fd1 : FuncData} (F : Fun K "_law_record_text" "_law_record_text" sLRT f fd) (T : Txt K mg)
    (FV : FO P w K mg base CX0 1 "_law_value_text" ["value"] spWVal f1 fd1) : FnOk P w K mg base CX0 2 f fd ["record"] spWRec := by
  have sc := scLRT
  have T3 := T
  refine F.ok sc (fun vs H Q E h => ?_) (fun cdv A outer s H vs Q E hr h => ?_)
  · obtain ⟨r, x, rfl, _⟩ := h
    rfl
  · obtain ⟨r, x, rfl, hx, hs, q⟩ := h
    refine ⟨_, (pss_cons (ps_if (pt_cmpR op_eq (pe_ix ix_tup (pv 0) pe_int (fun _ _ => rfl)) pe_str (nomark _))
      (pss_one (ps_ret (pe_opCT op_add_str op_add_str (pe_op op_add_str pe_str (pe_ix ix_tup (pv 0) pe_int (fun _ _ => rfl))) (CwR.pet_replC (pe_ix ix_tup (pv 0) pe_int (fun _ _ => rfl))))))
      pss_nil)
      (pss_cons (ps_if (pt_cmpR op_eq (pe_ix ix_tup (pv 0) pe_int (fun _ _ => rfl)) pe_str (nomark _))
      (pss_one (ps_ret (pe_join pe_str (pe_op op_cat (pe_lst (pa_cons pe_str (pa_cons (pe_callTy call_str_any (by rfl) T.bstr (by decide +kernel) (pa_cons (pe_ix ix_tup (pv 0) pe_int (fun _ _ => rfl)) pa_nil)) (pa_cons (pe_callTy call_str_any (by rfl) T.bstr (by decide +kernel) (pa_cons (pe_ix ix_tup (pv 0) pe_int (fun _ _ => rfl)) pa_nil)) (pa_cons (pe_ix ix_tup (pv 0) pe_int (fun _ _ => rfl)) (pa_cons (pe_ix ix_tup (pv 0) pe_int (fun _ _ => rfl)) pa_nil)))))) (pe_lc (own := [("value", 1)]) rfl sc.nd (pi_tup (pe_ix ix_tup (pv 0) pe_int (fun _ _ => rfl))) (blkOk_by (own := [("value", 1)]) (N := ["record", "value"]) (sc := defScope sLRT) (by decide +kernel)) (fun _ _ _ _ _ => (pg_name (i := 1) sc.nd rfl (Or.inl rfl))) (fun _ _ _ _ _ => pts_nil) (fun _ _ _ _ _ => (pe_call FV.ok hr (by rfl) FV.m FV.kp FV.b .nil pass0 (pa_cons (pv 1) pa_nil))))))))
      pss_nil)
      (pss_cons (ps_if (pt_cmpR op_eq (pe_ix ix_tup (pv 0) pe_int (fun _ _ => rfl)) pe_str (nomark _))
      (pss_one (ps_ret (pe_join pe_str (pe_op op_cat (pe_lst (pa_cons pe_str pa_nil)) (pe_callTy call_list_of (by rfl) T.blist (by decide +kernel) (pa_cons (pe_ix ix_tup (pv 0) pe_int (fun _ _ => rfl)) pa_nil))))))
      pss_nil)
      (pss_one (ps_ret (pe_op op_add_str (pe_op op_add_str (pe_ix ix_tup (pv 0) pe_int (fun _ _ => rfl)) pe_str) (pe_callTy call_str_any (by rfl) T.bstr (by decide +kernel) (pa_cons (pe_ix ix_tup (pv 0) pe_int (fun _ _ => rfl)) pa_nil)))))))), ?_⟩
    obtain ⟨pa1, pa2⟩ := partsA_sm x hs
    obtain ⟨a, er, ea⟩ := hx
    have it : ∀ {H' : Hp} {i : Nat} {v : V}, Same H H' → (recV a x)[i]? = some v → SqT K H' r (recV a x) ∧ atI (recV a x) (i : Int) = some v := fun s e => ⟨SqT.of (s _ _ er), atI_nat e⟩
    have w0 : (recV a x)[0]? = some (.str (wordR x)) := by cases x <;> rfl
    refine ⟨_, rfl, r, _, _, _, rfl, rfl, (it (Same.refl _) w0).1, (it (Same.refl _) w0).2, rfl, _, rfl, ?_⟩
    have w0r : SqT K H r (recV a x) ∧ atI (recV a x) ((0 : Nat) : Int) = some (.str (wordR x)) := it (Same.refl _) w0
    have big : ∀ {n : Nat}, n ≤ 20000 → n ≤ sizeLine := fun h => Nat.le_trans h (by decide)
    have sm : ((partsR x).map (·.length)).sum ≤ 21 * 12000 ∧ (partsR x).length ≤ 21 := by
      refine ⟨Nat.le_trans (sum_le (B := 12000) fun k hk => ?_) ?_, ?_⟩
      · obtain ⟨z, hz, rfl⟩ := List.mem_map.mp hk
        rw [parts_eq] at hz
        rcases List.mem_cons.mp hz with rfl | hz
        · cases x <;> exact Nat.le_of_ble_eq_true rfl
        · obtain ⟨a, ha, rfl⟩ := List.mem_map.mp hz
          have := pa1 a ha
          cases a with
          | i n => exact this.2
          | s z => exact this
      · rw [List.length_map, parts_eq, List.length_cons, List.length_map]
        exact Nat.mul_le_mul_right _ (by omega)
      · rw [parts_eq, List.length_cons, List.length_map]
        omega
    have e1 : (Str.ofString " ").length = 1 := rfl
    have fin : ∀ {H' : Hp} {p : Addr}, Same H H' → H' p = some (.lst ((partsR x).map V.str)) → ∃ (a_1 : Str) (p_1 : Addr) (ys : List Str), V.str (Str.ofString " ") = V.str a_1 ∧ [V.ref p] = [V.ref p_1] ∧ (SqL K H' p_1 (ys.map V.str) ∨ SqT K H' p_1 (ys.map V.str)) ∧ (ys.map (·.length)).sum + ys.length * a_1.length ≤ 16777216 ∧ Q (.str (Txt.join a_1 ys)) H' := fun s e =>
      ⟨_, _, partsR x, rfl, rfl, .inl (SqL.of e), by rw [e1]; have := sm.1; have := sm.2; omega, q _ s⟩
    cases x with
    | txt m t =>
      refine iteT ?_
      have h1 := hs.1
      have h2 := hs.2
      refine ⟨_, rfl, r, _, _, _, rfl, rfl, (it (Same.refl _) (i := 1) rfl).1, (it (Same.refl _) (i := 1) rfl).2, _, _, rfl, rfl, ?_, ?_⟩
      · exact big (by show 5 + m.length ≤ 20000; omega)
      refine ⟨_, _, rfl, rfl, ?_, ?_⟩
      · exact big (by rw [add_len, e1]; show 5 + m.length + 1 ≤ 20000; omega)
      have e2 : (Str.ofString "|").length = 1 := rfl
      refine ⟨_, rfl, r, _, _, _, rfl, rfl, (it (Same.refl _) (i := 2) rfl).1, (it (Same.refl _) (i := 2) rfl).2, t, rfl, by rw [e2]; omega, ?_⟩
      have rl := TK.replace_len t "\n" "|"
      rw [e2] at rl
      refine ⟨_, _, rfl, rfl, ?_, ?_⟩
      · refine big ?_
        rw [add_len, add_len, e1]
        show 5 + m.length + 1 + (Txt.replace t "\n" "|").length ≤ 20000
        omega
      · have e : wR (.txt m t) = Str.ofString "text " ++ m ++ Str.ofString " " ++ Txt.replace t "\n" "|" := str_eq ((wR_list (.txt m t)).trans (by rw [add_list, add_list, add_list, List.append_assoc, List.append_assoc]; rfl))
        have := q H (Same.refl _)
        rw [e] at this
        exact this
    | rem m =>
      have h1 : m.length ≤ 5000 := hs
      refine iteF ?_
      refine ⟨_, rfl, r, _, _, _, rfl, rfl, w0r.1, w0r.2, rfl, _, rfl, iteF ?_⟩
      refine ⟨_, rfl, r, _, _, _, rfl, rfl, w0r.1, w0r.2, rfl, _, rfl, iteF ?_⟩
      refine ⟨_, rfl, r, _, _, _, rfl, rfl, w0r.1, w0r.2, _, _, rfl, rfl, (show 6 + 1 ≤ sizeLine by decide), ?_⟩
      refine ⟨_, rfl, r, _, _, _, rfl, rfl, (it (Same.refl _) (i := 1) rfl).1, (it (Same.refl _) (i := 1) rfl).2, .inr ⟨m, rfl, _, _, rfl, rfl, ?_, ?_⟩⟩
      · exact big (by rw [add_len, e1]; show 6 + 1 + m.length ≤ 20000; omega)
      · have e : wR (.rem m) = Str.ofString "remove" ++ Str.ofString " " ++ m := str_eq ((wR_list (.rem m)).trans (by rw [add_list, add_list, List.append_assoc]; rfl))
        have := q H (Same.refl _)
        rw [e] at this
        exact this
    | upd n =>
      refine iteF ?_
      refine ⟨_, rfl, r, _, _, _, rfl, rfl, w0r.1, w0r.2, rfl, _, rfl, iteF ?_⟩
      refine ⟨_, rfl, r, _, _, _, rfl, rfl, w0r.1, w0r.2, rfl, _, rfl, iteF ?_⟩
      refine ⟨_, rfl, r, _, _, _, rfl, rfl, w0r.1, w0r.2, _, _, rfl, rfl, (show 6 + 1 ≤ sizeLine by decide), ?_⟩
      refine ⟨_, rfl, r, _, _, _, rfl, rfl, (it (Same.refl _) (i := 1) rfl).1, (it (Same.refl _) (i := 1) rfl).2, .inl ⟨n, rfl, (numT_small hs).1, _, _, rfl, rfl, ?_, ?_⟩⟩
      · exact big (by rw [add_len, e1]; show 6 + 1 + (Str.ofString (toString ((n : Nat) : Int))).length ≤ 20000; have := (numT_small hs).2; omega)
      · have e : wR (.upd n) = Str.ofString "update" ++ Str.ofString " " ++ Str.ofString (toString ((n : Nat) : Int)) := str_eq ((wR_list (.upd n)).trans (by rw [add_list, add_list, List.append_assoc]; rfl))
        have := q H (Same.refl _)
        rw [e] at this
        exact this
    | ent xs =>
      refine iteF ?_
      refine ⟨_, rfl, r, _, _, _, rfl, rfl, w0r.1, w0r.2, rfl, _, rfl, iteF ?_⟩
      refine ⟨_, rfl, r, _, _, _, rfl, rfl, w0r.1, w0r.2, rfl, _, rfl, iteT ?_⟩
      refine ⟨⟨_, rfl⟩, (show 1 ≤ sizeLine by decide), fun l1 nl1 => ?_⟩
      have s1 := Same.lst (o := .lst [.str "entries"]) (Same.refl H) nl1
      have el1 : upd H l1 (.lst [.str "entries"]) l1 = some (.lst [.str "entries"]) := upd_same
      generalize upd H l1 (.lst [.str "entries"]) = H1 at *
      have ea1 := s1 _ _ (ea _ rfl)
      refine ⟨_, rfl, r, _, _, _, rfl, rfl, (it s1 (i := 1) rfl).1, (it s1 (i := 1) rfl).2, a, _, rfl, .inr (SqT.of ea1), fun l nl => ?_⟩
      refine ⟨l1, l, _, _, rfl, rfl, by rw [upd_ne (ne_of_none el1 nl)]; exact el1, upd_same, ?_, fun p np => fin (snew (snew s1 nl) np) upd_same⟩
      have := hs.1
      rw [List.length_map]
      exact szle (by show 1 + _ ≤ 5000; omega)
    | call hh n m f ad =>
      refine iteF ?_
      refine ⟨_, rfl, r, _, _, _, rfl, rfl, w0r.1, w0r.2, rfl, _, rfl, iteT ?_⟩
      obtain ⟨h1, h2, h3, h4, h5, h6⟩ := hs
      have e0 : H a = some (.tup (ad.map aV)) := ea _ rfl
      refine ⟨⟨_, rfl⟩, ?_⟩
      refine ⟨_, rfl, r, _, _, _, rfl, rfl, (it (Same.refl _) (i := 1) rfl).1, (it (Same.refl _) (i := 1) rfl).2, .inl ⟨hh, rfl, (numT_small h1).1, ?_⟩⟩
      refine ⟨_, rfl, r, _, _, _, rfl, rfl, (it (Same.refl _) (i := 2) rfl).1, (it (Same.refl _) (i := 2) rfl).2, .inl ⟨n, rfl, (numT_small h2).1, ?_⟩⟩
      refine ⟨_, rfl, r, _, _, _, rfl, rfl, (it (Same.refl _) (i := 3) rfl).1, (it (Same.refl _) (i := 3) rfl).2, ?_⟩
      refine ⟨_, rfl, r, _, _, _, rfl, rfl, (it (Same.refl _) (i := 4) rfl).1, (it (Same.refl _) (i := 4) rfl).2, (show 5 ≤ sizeLine by decide), fun l1 nl1 => ?_⟩
      have s1 := Same.lst (o := .lst [.str "call", .str (toString ((hh : Nat) : Int)), .str (toString ((n : Nat) : Int)), .str m, .str f]) (Same.refl H) nl1
      have el1 : upd H l1 (.lst [.str "call", .str (toString ((hh : Nat) : Int)), .str (toString ((n : Nat) : Int)), .str m, .str f]) l1 = some (.lst [.str "call", .str (toString ((hh : Nat) : Int)), .str (toString ((n : Nat) : Int)), .str m, .str f]) := upd_same
      generalize upd H l1 (.lst [.str "call", .str (toString ((hh : Nat) : Int)), .str (toString ((n : Nat) : Int)), .str m, .str f]) = H1 at *
      refine ⟨_, rfl, r, _, _, _, rfl, rfl, (it s1 (i := 5) rfl).1, (it s1 (i := 5) rfl).2, a, rfl, ⟨_, SqT.of (s1 _ _ e0)⟩, fun l nl => ?_⟩
      refine lc_it (walk_tup (K := K) (a := a) (xs := ad.map aV)) (fun j H' => Same H1 H' ∧ H' l = some (.lst (((ad.take j).map aT).map V.str))) ⟨Same.lst (Same.refl _) nl, upd_same⟩ (fun i H' _ pv => SqT.of (strans s1 pv.1 _ _ e0)) (fun j x H2 H3 hj pv y => ?_) (fun H2 pv => ?_)
      · obtain ⟨rfl, hx⟩ := y
        rw [List.getElem?_map, Option.map_eq_some_iff] at hx
        obtain ⟨z, hi, rfl⟩ := hx
        obtain ⟨s2, el⟩ := pv
        refine ⟨rfl, _, rfl, z, rfl, (h6 z (List.mem_of_getElem? hi)).1, _, el, ?_, swr s2 nl el, ?_⟩
        · rw [List.length_map, List.length_map, List.length_take]
          exact szlt (by omega)
        · rw [upd_same, List.take_add_one, hi, List.map_append, List.map_append]
          rfl
      · have lv : (ad.map aV).length = ad.length := List.length_map _
        rw [lv, List.take_length] at pv
        obtain ⟨s2, el⟩ := pv
        refine ⟨l1, l, _, _, rfl, rfl, s2 _ _ el1, el, ?_, fun p np => fin (snew (strans s1 s2) np) upd_same⟩
        rw [List.length_map, List.length_map]
        exact szle (by show 5 + _ ≤ 5000; omega)
end
end K6

set_option maxRecDepth 100000
set_option maxHeartbeats 4000000
/-! what the law draws -/
namespace K6
open PySem hiding Tok code
open PySem.Spec PyProof.Rows GD K1
open L2 hiding rest
theorem op_rep_str {X : Cx} : OpR X (binaryOp .Mult) (fun x y H Q => ∃ (z : Str) (n : Int), x = .str z ∧ y = .int n ∧ (decide (n < -(2 ^ 63 : Int)) || decide (n ≥ 2 ^ 63)) = false ∧
    ¬ ((z.length : Int) > (2 ^ 63 - 1) / n) ∧ Builtin.Str.tooLong (z.length * n.toNat) = false ∧ (n == 1 || z.length == 0) = false ∧ ¬ n < 1 ∧
    (⟨(List.replicate n.toNat z.cps).foldl (· ++ ·) #[]⟩ : Str).length ≤ sizeLine ∧ Q (.str ⟨(List.replicate n.toNat z.cps).foldl (· ++ ·) #[]⟩) H) := by
  intro pins s σ H x y v u Q I rx ry h
  obtain ⟨z, n, rfl, rfl, h1, h2, h3, h4, h5, h6, q⟩ := h
  obtain ⟨t, rfl⟩ := rx
  obtain ⟨t', rfl⟩ := ry
  refine PySem.P.mul_str h1 (fun _ _ => h2) (fun _ _ => h3) ?_
  rw [if_neg h5, if_neg (by rw [h4]; exact Bool.false_ne_true)]
  exact ⟨h6, ⟨.str _, H, I.tok _, ⟨_, rfl⟩, q⟩⟩

abbrev sSigns : Stmt := topS 45
abbrev sSomeV : Stmt := topS 46
abbrev sRecord : Stmt := topS 47
theorem fold_rep (c : Nat) : ∀ (n : Nat) (acc : Array Nat), ((List.replicate n #[c]).foldl (· ++ ·) acc).toList = acc.toList ++ List.replicate n c
  | 0, acc => by show acc.toList = _; rw [List.replicate_zero, List.append_nil]
  | n + 1, acc => by
    rw [List.replicate_succ, List.foldl_cons, fold_rep c n, Array.toList_append, List.replicate_succ, List.append_assoc]
    rfl
theorem rep_one (c n : Nat) : (⟨(List.replicate n #[c]).foldl (· ++ ·) #[]⟩ : Str) = S (List.replicate n c) := by
  apply Str.ext'
  apply Array.toList_inj.mp
  show ((List.replicate n #[c]).foldl (· ++ ·) #[]).toList = List.replicate n c
  rw [fold_rep]
  rfl
theorem hcl : CHS.length = 94 := by decide +kernel
section
variable {P : Program} {w : World} {K : PySem.W.Frag} {mg : Str → Option Value} {base : Heap} {PN PV : Addr}
def spSigns : L2.Sp := fun vs H Q _ => ∃ (b d : Addr) (ds : List Int) (n : Nat), vs = [.ref b, .int 40] ∧ Box H b d ds n ∧
  ∀ H' n' L, Bs b d ds H H' n' → L.length ≤ 40 → (∀ c ∈ L, isCh c = true) → Q (.str (S L)) H'
theorem scSigns : FnScope ["box", "many", "signs", "text", "turn"] ["box", "many"] (defScope sSigns) := ⟨rfl, rfl, rfl, by decide +kernel, rfl, by decide +kernel, by decide +kernel⟩
theorem ok_signs {f f1 : Addr} {fd fd1 : FuncData} (F : Fun K "_law_signs" "_law_signs" sSigns f fd) (T : Txt K mg)
    (FD : FO P w K mg base CX0 1 "_law_draw" ["box", "many"] spDraw f1 fd1) : FnOk P w K mg base CX0 2 f fd ["box", "many"] spSigns := by
  have sc := scSigns
  have T3 := T
  refine F.ok sc (fun vs H Q E h => ?_) (fun cdv A outer s H vs Q E hr h => ?_)
  · obtain ⟨b, d, ds, n, rfl, _⟩ := h
    rfl
  · obtain ⟨b, d, ds, n, rfl, hB, q⟩ := h
    refine ⟨_, (pss_cons (ps_set (i := 2) sc.nd rfl (Or.inl rfl) pe_str)
      (pss_cons (ps_if (pt_cmpR op_eq (pe_call FD.ok (hr.mono (by decide)) (by rfl) FD.m FD.kp FD.b .nil pass0 (pa_cons (pv 0) (pa_cons pe_int pa_nil))) pe_int (nomark _))
      (pss_one (ps_ret (pe_op op_rep_str (pe_item_str (pv 2) (pe_call FD.ok (hr.mono (by decide)) (by rfl) FD.m FD.kp FD.b .nil pass0 (pa_cons (pv 0) (pa_cons (pe_callB call_len_str (by rfl) T.len (by decide +kernel) (pa_cons (pv 2) pa_nil)) pa_nil))) (fun _ _ => rfl)) (pv 1))))
      pss_nil)
      (pss_cons (ps_set (i := 3) sc.nd rfl (Or.inl rfl) pe_str)
      (pss_cons (ps_for PassesOwn.never rfl (pi_range1 rfl T.range (pa_cons (pv 1) pa_nil)) (pg_name (i := 4) sc.nd rfl (Or.inl rfl))
      (pss_one (ps_set (i := 3) sc.nd rfl (Or.inl rfl) (pe_op op_add_str (pv 3) (pe_item_str (pv 2) (pe_call FD.ok (hr.mono (by decide)) (by rfl) FD.m FD.kp FD.b .nil pass0 (pa_cons (pv 0) (pa_cons (pe_callB call_len_str (by rfl) T.len (by decide +kernel) (pa_cons (pv 2) pa_nil)) pa_nil))) (fun _ _ => rfl))))))
      (pss_one (ps_ret (pv 3))))))), ?_⟩
    have isc : ∀ {j c : Nat}, CHS.cps[j]? = some c → isCh c = true := fun {j c} h => by
      have hm : c ∈ CHS.cps.toList := by
        rw [Array.mem_toList_iff]
        exact Array.mem_of_getElem? h
      rw [← chs_eq]
      exact decide_eq_true hm
    have pick : ∀ {j : Nat}, j < 94 → ∃ c, CHS.cps[(((j : Nat) : Int)).toNat]? = some c := fun {j} h => ⟨CHS.cps[j]'h, by show CHS.cps[j]? = _; exact Array.getElem?_eq_getElem h⟩
    refine ⟨_, rfl, b, d, ds, n, 4, rfl, hB, by decide, fun r0 h0 h1 => ?_⟩
    have b1 := (Bs.refl hB).draw
    generalize upd H b (.lst [.ref d, .int ((n + 1 : Nat) : Int)]) = H1 at *
    refine ⟨rfl, _, rfl, ite2 (fun h => ?_) (fun h => ?_)⟩
    · refine ⟨_, rfl, _, rfl, _, rfl, CHS, rfl, by rw [hcl]; decide, b, d, ds, n + 1, _, rfl, b1.box, by rw [hcl]; decide, fun r1 h2 h3 => ?_⟩
      have b2 := b1.draw
      rw [hcl] at h3
      obtain ⟨j, rfl, hj⟩ := idx (m := 94) h2 h3
      obtain ⟨c, hc⟩ := pick hj
      refine ⟨CHS, _, c, rfl, rfl, by omega, by omega, by rw [hcl]; omega, hc, ?_⟩
      refine ⟨_, rfl, ⟨#[c]⟩, 40, rfl, rfl, by decide, by show ¬ ((1 : Int) > _); decide, by show Builtin.Str.tooLong (1 * 40) = false; decide, rfl, by decide, ?_, ?_⟩
      · show (⟨(List.replicate 40 #[c]).foldl (· ++ ·) #[]⟩ : Str).length ≤ sizeLine
        rw [rep_one, S_len, List.length_replicate]
        decide
      · show Q (.str ⟨(List.replicate 40 #[c]).foldl (· ++ ·) #[]⟩) _
        rw [rep_one]
        exact q _ _ _ b2 (by rw [List.length_replicate]; decide) fun e he => by rw [(List.mem_replicate.mp he).2]; exact isc hc
    · refine ⟨_, rfl, 40, rfl, by decide, by decide, for_range (lo := 0) (n := 40) (fun i σ H' => ∃ (y4 : Option V) (L : List Nat) (n' : Nat), σ = [some (.ref b), some (.int 40), some (.str CHS), some (.str (S L)), y4] ∧ Bs b d ds H H' n' ∧ L.length ≤ i ∧ ∀ c ∈ L, isCh c = true)
        ⟨none, [], n + 1, rfl, b1, Nat.le_refl _, fun c hc => by cases hc⟩ ?_ ?_⟩
      · rintro i σ H2 hi ⟨y4, L, n', rfl, b2, hL, hc⟩
        refine ⟨_, rfl, _, rfl, _, rfl, _, rfl, CHS, rfl, by rw [hcl]; decide, b, d, ds, n', _, rfl, b2.box, by rw [hcl]; decide, fun r1 h2 h3 => ?_⟩
        have b3 := b2.draw
        rw [hcl] at h3
        obtain ⟨j, rfl, hj⟩ := idx (m := 94) h2 h3
        obtain ⟨c, hcj⟩ := pick hj
        refine ⟨CHS, _, c, rfl, rfl, by omega, by omega, by rw [hcl]; omega, hcj, ?_⟩
        refine ⟨_, _, rfl, rfl, szle (by rw [S_len]; show L.length + 1 ≤ 5000; omega), ?_⟩
        refine ⟨some (.int (0 + (i : Nat))), L ++ [c], n' + 1, ?_, b3, by rw [List.length_append]; exact Nat.succ_le_succ hL, fun e he => ?_⟩
        · have : S L ++ (⟨#[c]⟩ : Str) = S (L ++ [c]) := S_app L [c]
          rw [this]
          rfl
        · rcases List.mem_append.mp he with he | he
          · exact hc e he
          · rw [List.mem_singleton.mp he]
            exact isc hcj
      · rintro σ H2 ⟨y4, L, n', rfl, b2, hL, hc⟩
        exact ⟨_, rfl, q _ _ L b2 hL hc⟩
def spSomeV : L2.Sp := fun vs H Q _ => ∃ (b d : Addr) (ds : List Int) (n : Nat), vs = [.ref b] ∧ Box H b d ds n ∧
  ∀ H' n' a, Bs b d ds H H' n' → aB a = true → Q (aV a) H'
theorem scSomeV : FnScope ["box"] ["box"] (defScope sSomeV) := ⟨rfl, rfl, rfl, by decide +kernel, rfl, by decide +kernel, by decide +kernel⟩
theorem ok_someV {f f1 : Addr} {fd fd1 : FuncData} (F : Fun K "_law_some_value" "_law_some_value" sSomeV f fd) (T : Txt K mg)
    (FD : FO P w K mg base CX0 1 "_law_draw" ["box", "many"] spDraw f1 fd1) : FnOk P w K mg base CX0 2 f fd ["box"] spSomeV := by
  have sc := scSomeV
  have T3 := T
  refine F.ok sc (fun vs H Q E h => ?_) (fun cdv A outer s H vs Q E hr h => ?_)
  · obtain ⟨b, d, ds, n, rfl, _⟩ := h
    rfl
  · obtain ⟨b, d, ds, n, rfl, hB, q⟩ := h
    refine ⟨_, (pss_one (ps_ret (pe_ix ix_list (pe_lst (pa_cons pe_int (pa_cons (pe_un un_neg pe_int) (pa_cons pe_int (pa_cons (pe_un un_neg pe_int) (pa_cons pe_str (pa_cons pe_str (pa_cons pe_str (pa_cons (pe_op op_rep_str pe_str pe_int) (pa_cons (pe_call FD.ok (hr.mono (by decide)) (by rfl) FD.m FD.kp FD.b .nil pass0 (pa_cons (pv 0) (pa_cons pe_int pa_nil))) pa_nil)))))))))) (pe_call FD.ok (hr.mono (by decide)) (by rfl) FD.m FD.kp FD.b .nil pass0 (pa_cons (pv 0) (pa_cons pe_int pa_nil))) (fun _ _ => rfl)))), ?_⟩
    refine ⟨_, rfl, _, rfl, _, 20, rfl, rfl, by decide, by show ¬ ((1 : Int) > _); decide, by show Builtin.Str.tooLong (1 * 20) = false; decide, rfl, by decide, by decide +kernel, ?_⟩
    refine ⟨_, rfl, b, d, ds, n, 999, rfl, hB, by decide, fun r h0 h1 => ⟨(show 9 ≤ sizeLine by decide), fun l nl => ?_⟩⟩
    have b1 := (Bs.refl hB).draw
    have b2 := b1.new (o := .lst [.int 0, .int (-5), .int 99999, .int (-99999), .str "", .str "s", .str "x y", .str ⟨(List.replicate (20 : Int).toNat (Str.ofString "x").cps).foldl (· ++ ·) #[]⟩, .int r]) nl
    refine ⟨_, rfl, b, d, ds, n + 1, 9, rfl, b2.box, by decide, fun r2 h2 h3 => ?_⟩
    have b3 := b2.draw
    have nlb : l ≠ b := b1.nb nl
    obtain ⟨j, rfl, hj⟩ := idx (m := 9) h2 h3
    have el := (upd_ne (o := .lst [.ref d, .int ((n + 1 + 1 : Nat) : Int)]) nlb).trans (upd_same (H := upd H b (.lst [.ref d, .int ((n + 1 : Nat) : Int)])) (a := l) (o := .lst [.int 0, .int (-5), .int 99999, .int (-99999), .str "", .str "s", .str "x y", .str ⟨(List.replicate (20 : Int).toNat (Str.ofString "x").cps).foldl (· ++ ·) #[]⟩, .int r]))
    have hj : j = 0 ∨ j = 1 ∨ j = 2 ∨ j = 3 ∨ j = 4 ∨ j = 5 ∨ j = 6 ∨ j = 7 ∨ j = 8 := by omega
    rcases hj with rfl | rfl | rfl | rfl | rfl | rfl | rfl | rfl | rfl
    · exact ⟨l, _, _, _, rfl, rfl, SqL.of el, atI_nat (j := 0) rfl, q _ _ (.i 0) b3 rfl⟩
    · exact ⟨l, _, _, _, rfl, rfl, SqL.of el, atI_nat (j := 1) rfl, q _ _ (.i (-5)) b3 rfl⟩
    · exact ⟨l, _, _, _, rfl, rfl, SqL.of el, atI_nat (j := 2) rfl, q _ _ (.i 99999) b3 rfl⟩
    · exact ⟨l, _, _, _, rfl, rfl, SqL.of el, atI_nat (j := 3) rfl, q _ _ (.i (-99999)) b3 rfl⟩
    · exact ⟨l, _, _, _, rfl, rfl, SqL.of el, atI_nat (j := 4) rfl, q _ _ (.s "") b3 rfl⟩
    · exact ⟨l, _, _, _, rfl, rfl, SqL.of el, atI_nat (j := 5) rfl, q _ _ (.s "s") b3 rfl⟩
    · exact ⟨l, _, _, _, rfl, rfl, SqL.of el, atI_nat (j := 6) rfl, q _ _ (.s "x y") b3 rfl⟩
    · exact ⟨l, _, _, _, rfl, rfl, SqL.of el, atI_nat (j := 7) rfl, q _ _ (.s _) b3 (by decide +kernel)⟩
    · exact ⟨l, _, _, _, rfl, rfl, SqL.of el, atI_nat (j := 8) rfl, q _ _ (.i r) b3 (decide_eq_true ⟨by omega, by omega⟩)⟩
end
end K6

set_option maxRecDepth 100000
set_option maxHeartbeats 4000000
/-! a drawn record -/
namespace K6
open PySem hiding Tok code
open PySem.Spec PyProof.Rows GD K1
open L2 hiding rest
theorem RecOK.sm {x : Rec} (h : RecOK x) : RecSm x := by
  cases x with
  | ent xs => rcases h with rfl | rfl | rfl <;> exact ⟨by decide, by decide⟩
  | txt m t => exact ⟨Nat.le_trans (name_let h.1).2.2 (by decide), Nat.le_trans h.2.1 (by decide)⟩
  | rem m => exact Nat.le_trans (name_let (show nameB m = true from h)).2.2 (by decide)
  | upd n => exact Nat.lt_of_le_of_lt (show n ≤ 8 from h) (by decide)
  | call hh n m f ad =>
    obtain ⟨h1, h2, h3, h4, h5⟩ := h
    have q := argsB_sm h5
    exact ⟨by omega, by omega, Nat.le_trans (name_let h3).2.2 (by decide), Nat.le_trans (name_let h4).2.2 (by decide), by omega, fun y hy => aT_len (q.2 y hy)⟩
section
variable {b d l : Addr} {ds : List Int} {H H1 : Hp} {n n0 : Nat}
theorem Bs.wr {xs : List V} {o : HO} (h : Bs b d ds H H1 n) (hB : Box H b d ds n0) (nl : H l = none) (_e : H1 l = some (.lst xs)) : Bs b d ds H (upd H1 l o) n := by
  have lb : l ≠ b := fun z => by rw [z, hB.1] at nl; cases nl
  have ld : l ≠ d := fun z => by rw [z, hB.2.1] at nl; cases nl
  refine ⟨fun c u nc e => ?_, ⟨?_, ?_, h.box.2.2⟩, fun c z => ?_⟩
  · rw [upd_ne (fun z => by rw [z, nl] at e; cases e)]
    exact h.bx c u nc e
  · rw [upd_ne lb.symm]
    exact h.box.1
  · rw [upd_ne ld.symm]
    exact h.box.2.1
  · by_cases e : c = l
    · rw [e]
      exact nl
    · rw [upd_ne e] at z
      exact h.free c z
theorem pick_at {xs : List V} (b1 : Bs b d ds H H1 n) (nl : H1 l = none) : Bs b d ds H (upd (upd H1 l (.lst xs)) b (.lst [.ref d, .int ((n + 1 : Nat) : Int)])) (n + 1) ∧
    upd (upd H1 l (.lst xs)) b (.lst [.ref d, .int ((n + 1 : Nat) : Int)]) l = some (.lst xs) ∧ ∀ q o, q ≠ b → H1 q = some o → upd (upd H1 l (.lst xs)) b (.lst [.ref d, .int ((n + 1 : Nat) : Int)]) q = some o :=
  ⟨(b1.new nl).draw, by rw [upd_ne (b1.nb nl)]; exact upd_same, fun q o nq e => by rw [upd_ne nq, upd_ne (ne_of_none e nl)]; exact e⟩
end
section
variable {P : Program} {w : World} {K : PySem.W.Frag} {mg : Str → Option Value} {base : Heap} {PN PV : Addr}
def spRecord : L2.Sp := fun vs H Q _ => ∃ (b d : Addr) (ds : List Int) (n : Nat), vs = [.ref b] ∧ Box H b d ds n ∧
  ∀ H' n' r x, Bs b d ds H H' n' → RecAt H' r x → RecOK x → Q (.ref r) H'
theorem scRecord : FnScope ["box", "kind", "text", "arguments", "k"] ["box"] (defScope sRecord) := ⟨rfl, rfl, rfl, by decide +kernel, rfl, by decide +kernel, by decide +kernel⟩
theorem ok_record {f f1 f2 f3 : Addr} {fd fd1 fd2 fd3 : FuncData} (F : Fun K "_law_record" "_law_record" sRecord f fd) (T : Txt K mg) (T2 : TB mg)
    (FD : FO P w K mg base CX0 1 "_law_draw" ["box", "many"] spDraw f1 fd1) (FG : FO P w K mg base CX0 2 "_law_signs" ["box", "many"] spSigns f2 fd2)
    (FV : FO P w K mg base CX0 2 "_law_some_value" ["box"] spSomeV f3 fd3) : FnOk P w K mg base CX0 3 f fd ["box"] spRecord := by
  have sc := scRecord
  have T3 := T
  refine F.ok sc (fun vs H Q E h => ?_) (fun cdv A outer s H vs Q E hr h => ?_)
  · obtain ⟨b, d, ds, n, rfl, _⟩ := h
    rfl
  · obtain ⟨b, d, ds, n, rfl, hB, q⟩ := h
    refine ⟨_, (pss_cons (ps_set (i := 1) sc.nd rfl (Or.inl rfl) (pe_call FD.ok (hr.mono (by decide)) (by rfl) FD.m FD.kp FD.b .nil pass0 (pa_cons (pv 0) (pa_cons pe_int pa_nil))))
      (pss_cons (ps_if (pt_cmpR op_eq (pv 1) pe_int (nomark _))
      (pss_one (ps_ret (pe_tup (pa_cons pe_str (pa_cons (pe_ix ix_list (pe_lst (pa_cons (pe_tup (pa_cons pe_str pa_nil)) (pa_cons (pe_tup (pa_cons pe_str (pa_cons pe_str pa_nil))) (pa_cons (pe_tup (pa_cons pe_str (pa_cons pe_str (pa_cons pe_str pa_nil)))) pa_nil)))) (pe_call FD.ok (hr.mono (by decide)) (by rfl) FD.m FD.kp FD.b .nil pass0 (pa_cons (pv 0) (pa_cons pe_int pa_nil))) (fun _ _ => rfl)) pa_nil)))))
      pss_nil)
      (pss_cons (ps_if (pt_cmpR op_eq (pv 1) pe_int (nomark _))
      (pss_cons (ps_set (i := 2) sc.nd rfl (Or.inl rfl) (pe_ix ix_list (pe_lst (pa_strT (pat_cons (CwR.PET.of pe_str) (pat_cons (CwR.PET.of (pe_op op_rep_str pe_str pe_int)) (pat_cons (CwR.PET.of pe_str) (pat_cons (CwR.PET.of pe_str) (pat_cons (CwR.pet_replC (pe_call FG.ok (hr.mono (by decide)) (by rfl) FG.m FG.kp FG.b .nil pass0 (pa_cons (pv 0) (pa_cons pe_int pa_nil)))) pat_nil))))))) (pe_call FD.ok (hr.mono (by decide)) (by rfl) FD.m FD.kp FD.b .nil pass0 (pa_cons (pv 0) (pa_cons pe_int pa_nil))) (fun _ _ => rfl)))
      (pss_one (ps_ret (pe_tup (pa_cons pe_str (pa_cons (pe_ix ix_list (pe_lst (pa_cons pe_str (pa_cons pe_str pa_nil))) (pe_call FD.ok (hr.mono (by decide)) (by rfl) FD.m FD.kp FD.b .nil pass0 (pa_cons (pv 0) (pa_cons pe_int pa_nil))) (fun _ _ => rfl)) (pa_cons (pv 2) pa_nil)))))))
      pss_nil)
      (pss_cons (ps_if (pt_cmpR op_eq (pv 1) pe_int (nomark _))
      (pss_one (ps_ret (pe_tup (pa_cons pe_str (pa_cons (pe_ix ix_list (pe_lst (pa_cons pe_str (pa_cons pe_str pa_nil))) (pe_call FD.ok (hr.mono (by decide)) (by rfl) FD.m FD.kp FD.b .nil pass0 (pa_cons (pv 0) (pa_cons pe_int pa_nil))) (fun _ _ => rfl)) pa_nil)))))
      pss_nil)
      (pss_cons (ps_if (pt_cmpR op_eq (pv 1) pe_int (nomark _))
      (pss_one (ps_ret (pe_tup (pa_cons pe_str (pa_cons (pe_call FD.ok (hr.mono (by decide)) (by rfl) FD.m FD.kp FD.b .nil pass0 (pa_cons (pv 0) (pa_cons pe_int pa_nil))) pa_nil)))))
      pss_nil)
      (pss_cons (ps_set (i := 3) sc.nd rfl (Or.inl rfl) (pe_callTy call_tuple_of (by rfl) T2.btuple (by decide +kernel) (pa_cons (pe_lc (own := [("k", 4)]) rfl sc.nd (pi_range1 rfl T.range (pa_cons (pe_call FD.ok (hr.mono (by decide)) (by rfl) FD.m FD.kp FD.b .nil pass0 (pa_cons (pv 0) (pa_cons pe_int pa_nil))) pa_nil)) (blkOk_by (own := [("k", 4)]) (N := ["box", "kind", "text", "arguments", "k"]) (sc := defScope sRecord) (by decide +kernel)) (fun _ _ _ _ _ => (pg_name (i := 4) sc.nd rfl (Or.inl rfl))) (fun _ _ _ _ _ => pts_nil) (fun _ _ _ _ _ => (pe_call FV.ok hr (by rfl) FV.m FV.kp FV.b .nil pass0 (pa_cons (pv 0) pa_nil)))) pa_nil)))
      (pss_one (ps_ret (pe_tup (pa_cons pe_str (pa_cons (pe_call FD.ok (hr.mono (by decide)) (by rfl) FD.m FD.kp FD.b .nil pass0 (pa_cons (pv 0) (pa_cons pe_int pa_nil))) (pa_cons (pe_ix ix_list (pe_lst (pa_cons pe_int (pa_cons pe_int (pa_cons (pe_call FD.ok (hr.mono (by decide)) (by rfl) FD.m FD.kp FD.b .nil pass0 (pa_cons (pv 0) (pa_cons pe_int pa_nil))) pa_nil)))) (pe_call FD.ok (hr.mono (by decide)) (by rfl) FD.m FD.kp FD.b .nil pass0 (pa_cons (pv 0) (pa_cons pe_int pa_nil))) (fun _ _ => rfl)) (pa_cons pe_str (pa_cons (pe_ix ix_list (pe_lst (pa_cons pe_str (pa_cons pe_str pa_nil))) (pe_call FD.ok (hr.mono (by decide)) (by rfl) FD.m FD.kp FD.b .nil pass0 (pa_cons (pv 0) (pa_cons pe_int pa_nil))) (fun _ _ => rfl)) (pa_cons (pv 3) pa_nil))))))))))))))), ?_⟩
    refine ⟨_, rfl, b, d, ds, n, 6, rfl, hB, by decide, fun r0 h0 h1 => ?_⟩
    have b1 := (Bs.refl hB).draw
    generalize upd H b (.lst [.ref d, .int ((n + 1 : Nat) : Int)]) = H1 at *
    obtain ⟨k, rfl, hk⟩ := idx (m := 6) h0 h1
    refine ⟨_, rfl, rfl, _, rfl, ite2 (fun h => ?_) (fun n1 => ?_)⟩
    · refine ⟨(show 1 ≤ sizeLine by decide), fun p1 np1 => ⟨two_le, fun p2 np2 => ⟨(show 3 ≤ sizeLine by decide), fun p3 np3 => ⟨(show 3 ≤ sizeLine by decide), fun l nl => ?_⟩⟩⟩⟩
      have c1 := b1.new (o := .tup [.str "a"]) np1
      have e1 : upd H1 p1 (.tup [.str "a"]) p1 = some (.tup [.str "a"]) := upd_same
      have p1b := b1.nb np1
      generalize upd H1 p1 (.tup [.str "a"]) = H2 at *
      have c2 := c1.new (o := .tup [.str "abcdef", .str "b"]) np2
      have e2 : upd H2 p2 (.tup [.str "abcdef", .str "b"]) p2 = some (.tup [.str "abcdef", .str "b"]) := upd_same
      have e1 : upd H2 p2 (.tup [.str "abcdef", .str "b"]) p1 = some (.tup [.str "a"]) := by rw [upd_ne (ne_of_none e1 np2)]; exact e1
      have p2b := c1.nb np2
      generalize upd H2 p2 (.tup [.str "abcdef", .str "b"]) = H3 at *
      have c3 := c2.new (o := .tup [.str "c", .str "a", .str "b"]) np3
      have e3 : upd H3 p3 (.tup [.str "c", .str "a", .str "b"]) p3 = some (.tup [.str "c", .str "a", .str "b"]) := upd_same
      have e2 : upd H3 p3 (.tup [.str "c", .str "a", .str "b"]) p2 = some (.tup [.str "abcdef", .str "b"]) := by rw [upd_ne (ne_of_none e2 np3)]; exact e2
      have e1 : upd H3 p3 (.tup [.str "c", .str "a", .str "b"]) p1 = some (.tup [.str "a"]) := by rw [upd_ne (ne_of_none e1 np3)]; exact e1
      have p3b := c2.nb np3
      generalize upd H3 p3 (.tup [.str "c", .str "a", .str "b"]) = H4 at *
      refine ⟨_, rfl, b, d, ds, n + 1, 3, rfl, (c3.new nl).box, by decide, fun r2 h2 h3 => ?_⟩
      obtain ⟨c4, el, up⟩ := pick_at (xs := [.ref p1, .ref p2, .ref p3]) c3 nl
      have e1 := up _ _ p1b e1
      have e2 := up _ _ p2b e2
      have e3 := up _ _ p3b e3
      generalize upd (upd H4 l (.lst [.ref p1, .ref p2, .ref p3])) b (.lst [.ref d, .int ((n + 1 + 1 : Nat) : Int)]) = H5 at *
      obtain ⟨j, rfl, hj⟩ := idx (m := 3) h2 h3
      rcases (show j = 0 ∨ j = 1 ∨ j = 2 by omega) with rfl | rfl | rfl
      · refine ⟨l, _, _, _, rfl, rfl, SqL.of el, atI_nat (j := 0) rfl, two_le, fun p np => ?_⟩
        exact q _ _ p (.ent [Str.ofString "a"]) (c4.new np) ⟨p1, upd_same, fun l hl => by cases hl; rw [upd_ne (ne_of_none e1 np)]; exact e1⟩ (.inl rfl)
      · refine ⟨l, _, _, _, rfl, rfl, SqL.of el, atI_nat (j := 1) rfl, two_le, fun p np => ?_⟩
        exact q _ _ p (.ent [Str.ofString "abcdef", Str.ofString "b"]) (c4.new np) ⟨p2, upd_same, fun l hl => by cases hl; rw [upd_ne (ne_of_none e2 np)]; exact e2⟩ (.inr (.inl rfl))
      · refine ⟨l, _, _, _, rfl, rfl, SqL.of el, atI_nat (j := 2) rfl, two_le, fun p np => ?_⟩
        exact q _ _ p (.ent [Str.ofString "c", Str.ofString "a", Str.ofString "b"]) (c4.new np) ⟨p3, upd_same, fun l hl => by cases hl; rw [upd_ne (ne_of_none e3 np)]; exact e3⟩ (.inr (.inr rfl))
    refine ⟨_, rfl, rfl, _, rfl, ite2 (fun h => ?_) (fun n2 => ?_)⟩
    · refine seq_mid (A := tAsg _ _) (fun σ' H' => ∃ (t : Str) (n' : Nat), σ' = [some (.ref b), some (.int (k : Nat)), some (.str t), none, none] ∧ Bs b d ds H H' n' ∧ t.length ≤ 600 ∧ ∀ c ∈ t.cps.toList, c = 10 ∨ (isCh c = true ∧ c ≠ 124)) ?_ (fun mid => ?_)
      rotate_left
      · refine ⟨_, 600, rfl, rfl, by decide, by show ¬ ((1 : Int) > _); decide, by show Builtin.Str.tooLong (1 * 600) = false; decide, rfl, by decide, by decide +kernel, ?_⟩
        refine ⟨_, rfl, b, d, ds, n + 1, rfl, b1.box, fun H2 n2 L b2 hL hc => ?_⟩
        have b2 := b1.trans b2
        have e1 : (Str.ofString "\n").length = 1 := rfl
        have er : Txt.replace (S L) (Str.ofString "|") (Str.ofString "\n") = S (L.map fun d => if d = 124 then 10 else d) := repl_list L 124 10
        refine ⟨S L, rfl, by rw [e1, S_len]; omega, (show 6 ≤ sizeLine by decide), fun l nl => ?_⟩
        refine ⟨_, rfl, b, d, ds, n2, 6, rfl, (b2.new nl).box, by decide, fun r2 h2 h3 => ?_⟩
        rw [er]
        obtain ⟨c4, el, up⟩ := pick_at (xs := [.str "", .str " ", .str ⟨(List.replicate (600 : Int).toNat (Str.ofString "x").cps).foldl (· ++ ·) #[]⟩, .str "do 1\nlet x = \"a b\"", .str "\n\n", .str (S (L.map fun d => if d = 124 then 10 else d))]) b2 nl
        obtain ⟨j, rfl, hj⟩ := idx (m := 6) h2 h3
        rcases (show j = 0 ∨ j = 1 ∨ j = 2 ∨ j = 3 ∨ j = 4 ∨ j = 5 by omega) with rfl | rfl | rfl | rfl | rfl | rfl
        · exact ⟨l, _, _, _, rfl, rfl, SqL.of el, atI_nat (j := 0) rfl, mid _ _ ⟨_, _, rfl, c4, by decide, by decide +kernel⟩⟩
        · exact ⟨l, _, _, _, rfl, rfl, SqL.of el, atI_nat (j := 1) rfl, mid _ _ ⟨_, _, rfl, c4, by decide, by decide +kernel⟩⟩
        · exact ⟨l, _, _, _, rfl, rfl, SqL.of el, atI_nat (j := 2) rfl, mid _ _ ⟨_, _, rfl, c4, by decide +kernel, by decide +kernel⟩⟩
        · exact ⟨l, _, _, _, rfl, rfl, SqL.of el, atI_nat (j := 3) rfl, mid _ _ ⟨_, _, rfl, c4, by decide, by decide +kernel⟩⟩
        · exact ⟨l, _, _, _, rfl, rfl, SqL.of el, atI_nat (j := 4) rfl, mid _ _ ⟨_, _, rfl, c4, by decide, by decide +kernel⟩⟩
        · refine ⟨l, _, _, _, rfl, rfl, SqL.of el, atI_nat (j := 5) rfl, mid _ _ ⟨_, _, rfl, c4, by rw [S_len, List.length_map]; omega, fun c hcm => ?_⟩⟩
          obtain ⟨e, he, rfl⟩ := List.mem_map.mp hcm
          show (if e = 124 then 10 else e) = 10 ∨ _
          by_cases e124 : e = 124
          · rw [if_pos e124]
            exact .inl rfl
          · rw [if_neg e124]
            exact .inr ⟨hc e he, e124⟩
      · rintro σ' H2 ⟨t, n2, rfl, b2, ht, hc⟩
        refine ⟨two_le, fun l nl => ⟨_, rfl, b, d, ds, n2, 2, rfl, (b2.new nl).box, by decide, fun r2 h2 h3 => ?_⟩⟩
        obtain ⟨b3, el, _⟩ := pick_at (xs := [.str "a", .str "abcdef"]) b2 nl
        obtain ⟨j, rfl, hj⟩ := idx (m := 2) h2 h3
        rcases (show j = 0 ∨ j = 1 by omega) with rfl | rfl
        · refine ⟨l, _, _, _, rfl, rfl, SqL.of el, atI_nat (j := 0) rfl, _, rfl, (show 3 ≤ sizeLine by decide), fun p np => ?_⟩
          exact q _ _ p (.txt "a" t) (b3.new np) ⟨0, upd_same, fun l hl => by cases hl⟩ ⟨by decide +kernel, ht, hc⟩
        · refine ⟨l, _, _, _, rfl, rfl, SqL.of el, atI_nat (j := 1) rfl, _, rfl, (show 3 ≤ sizeLine by decide), fun p np => ?_⟩
          exact q _ _ p (.txt "abcdef" t) (b3.new np) ⟨0, upd_same, fun l hl => by cases hl⟩ ⟨by decide +kernel, ht, hc⟩
    refine ⟨_, rfl, rfl, _, rfl, ite2 (fun h => ?_) (fun n3 => ?_)⟩
    · refine ⟨two_le, fun l nl => ⟨_, rfl, b, d, ds, n + 1, 2, rfl, (b1.new nl).box, by decide, fun r2 h2 h3 => ?_⟩⟩
      obtain ⟨b2, el, _⟩ := pick_at (xs := [.str "a", .str "abcdef"]) b1 nl
      obtain ⟨j, rfl, hj⟩ := idx (m := 2) h2 h3
      rcases (show j = 0 ∨ j = 1 by omega) with rfl | rfl
      · refine ⟨l, _, _, _, rfl, rfl, SqL.of el, atI_nat (j := 0) rfl, two_le, fun p np => ?_⟩
        exact q _ _ p (.rem "a") (b2.new np) ⟨0, upd_same, fun l hl => by cases hl⟩ (by show nameB "a" = true; decide +kernel)
      · refine ⟨l, _, _, _, rfl, rfl, SqL.of el, atI_nat (j := 1) rfl, two_le, fun p np => ?_⟩
        exact q _ _ p (.rem "abcdef") (b2.new np) ⟨0, upd_same, fun l hl => by cases hl⟩ (by show nameB "abcdef" = true; decide +kernel)
    refine ⟨_, rfl, rfl, _, rfl, ite2 (fun h => ?_) (fun n4 => ?_)⟩
    · refine ⟨_, rfl, b, d, ds, n + 1, 9, rfl, b1.box, by decide, fun r2 h2 h3 => ⟨two_le, fun p np => ?_⟩⟩
      obtain ⟨j, rfl, hj⟩ := idx (m := 9) h2 h3
      exact q _ _ p (.upd j) (b1.draw.new np) ⟨0, upd_same, fun l hl => by cases hl⟩ (by show j ≤ 8; omega)
    refine ⟨_, rfl, b, d, ds, n + 1, 4, rfl, b1.box, by decide, fun r2 h2 h3 => ?_⟩
    obtain ⟨m, rfl, hm⟩ := idx (m := 4) h2 h3
    have b2 := b1.draw
    generalize upd H1 b (.lst [.ref d, .int ((n + 1 + 1 : Nat) : Int)]) = H2 at *
    refine ⟨_, rfl, by omega, by omega, fun l nl => ?_⟩
    have nl0 := b2.free l nl
    have lb : l ≠ b := b2.nb nl
    refine lc_range (lo := 0) (n := m) (fun j H' => ∃ (ad : List AV) (n' : Nat), Bs b d ds H H' n' ∧ H' l = some (.lst (ad.map aV)) ∧ ad.length = j ∧ ∀ a ∈ ad, aB a = true) ⟨[], _, b2.new nl, upd_same, rfl, fun a ha => by cases ha⟩ (fun j H3 hj pv => ?_) (fun H3 pv => ?_)
    · obtain ⟨ad, n', b3, el, la, hb⟩ := pv
      refine ⟨rfl, _, rfl, b, d, ds, n', rfl, b3.box, fun H4 n4 a b4 ha => ?_⟩
      have el4 := b4.bx l _ lb el
      refine ⟨_, el4, by rw [List.length_map]; exact szlt (by omega), ad ++ [a], n4, K6.Bs.wr (b3.trans b4) hB nl0 el4, ?_, by rw [List.length_append, la]; rfl, fun x hx => ?_⟩
      · rw [upd_same, List.map_append]
        rfl
      · rcases List.mem_append.mp hx with hx | hx
        · exact hb x hx
        · rw [List.mem_singleton.mp hx]
          exact ha
    · obtain ⟨ad, n', b3, el, la, hb⟩ := pv
      have hargs : argsB ad = true := by
        unfold argsB
        rw [Bool.and_eq_true, List.all_eq_true]
        exact ⟨decide_eq_true (by omega), hb⟩
      refine ⟨l, _, rfl, .inl ⟨SqL.of el, fun t nt => ?_⟩⟩
      have b4 := b3.new (o := .tup (ad.map aV)) nt
      have et : upd H3 t (.tup (ad.map aV)) t = some (.tup (ad.map aV)) := upd_same
      have tb : t ≠ b := b3.nb nt
      generalize upd H3 t (.tup (ad.map aV)) = H4 at *
      refine ⟨_, rfl, b, d, ds, n', 3, rfl, b4.box, by decide, fun rh h4 h5 => ?_⟩
      have b5 := b4.draw
      have et : upd H4 b (.lst [.ref d, .int ((n' + 1 : Nat) : Int)]) t = some (.tup (ad.map aV)) := by rw [upd_ne tb]; exact et
      generalize upd H4 b (.lst [.ref d, .int ((n' + 1 : Nat) : Int)]) = H5 at *
      obtain ⟨hh, rfl, hhh⟩ := idx (m := 3) h4 h5
      refine ⟨_, rfl, b, d, ds, n' + 1, 999, rfl, b5.box, by decide, fun rn h6 h7 => ?_⟩
      have b6 := b5.draw
      have et : upd H5 b (.lst [.ref d, .int ((n' + 1 + 1 : Nat) : Int)]) t = some (.tup (ad.map aV)) := by rw [upd_ne tb]; exact et
      generalize upd H5 b (.lst [.ref d, .int ((n' + 1 + 1 : Nat) : Int)]) = H6 at *
      obtain ⟨x, rfl, hx⟩ := idx (m := 999) h6 h7
      refine ⟨(show 3 ≤ sizeLine by decide), fun l2 nl2 => ⟨_, rfl, b, d, ds, n' + 1 + 1, 3, rfl, (b6.new nl2).box, by decide, fun r3 h8 h9 => ?_⟩⟩
      obtain ⟨b7, el2, up2⟩ := pick_at (xs := [.int 0, .int 9999, .int (x : Nat)]) b6 nl2
      have et := up2 _ _ tb et
      generalize upd (upd H6 l2 (.lst [.int 0, .int 9999, .int (x : Nat)])) b (.lst [.ref d, .int ((n' + 1 + 1 + 1 : Nat) : Int)]) = H7 at *
      obtain ⟨j, rfl, hj⟩ := idx (m := 3) h8 h9
      obtain ⟨nn, hn, en⟩ : ∃ nn : Nat, nn ≤ 9999 ∧ ([.int 0, .int 9999, .int (x : Nat)] : List V)[j]? = some (.int (nn : Nat)) := by
        rcases (show j = 0 ∨ j = 1 ∨ j = 2 by omega) with rfl | rfl | rfl
        · exact ⟨0, by decide, rfl⟩
        · exact ⟨9999, by decide, rfl⟩
        · exact ⟨x, by omega, rfl⟩
      refine ⟨l2, _, _, _, rfl, rfl, SqL.of el2, atI_nat en, two_le, fun l3 nl3 => ⟨_, rfl, b, d, ds, n' + 1 + 1 + 1, 2, rfl, (b7.new nl3).box, by decide, fun r4 h10 h11 => ?_⟩⟩
      obtain ⟨b8, el3, up3⟩ := pick_at (xs := [.str "f", .str "abcdef"]) b7 nl3
      have et := up3 _ _ tb et
      generalize upd (upd H7 l3 (.lst [.str "f", .str "abcdef"])) b (.lst [.ref d, .int ((n' + 1 + 1 + 1 + 1 : Nat) : Int)]) = H8 at *
      obtain ⟨i, rfl, hi⟩ := idx (m := 2) h10 h11
      obtain ⟨ff, hf, ef⟩ : ∃ ff : Str, nameB ff = true ∧ ([.str "f", .str "abcdef"] : List V)[i]? = some (.str ff) := by
        rcases (show i = 0 ∨ i = 1 by omega) with rfl | rfl
        · exact ⟨"f", by decide +kernel, rfl⟩
        · exact ⟨"abcdef", by decide +kernel, rfl⟩
      refine ⟨l3, _, _, _, rfl, rfl, SqL.of el3, atI_nat ef, _, rfl, (show 6 ≤ sizeLine by decide), fun p np => ?_⟩
      exact q _ _ p (.call hh nn "a" ff ad) (b8.new np) ⟨t, upd_same, fun l hl => by cases hl; rw [upd_ne (ne_of_none et np)]; exact et⟩ ⟨by omega, hn, by decide +kernel, hf, hargs⟩
end
end K6

set_option maxRecDepth 100000
set_option maxHeartbeats 4000000
/-! how long a text is; a record as data; a spoilt text -/
namespace K6
open PySem hiding Tok code
open PySem.Spec PyProof.Rows GD K1
open L2 hiding rest
open TL (joinL tl_join)
abbrev sSpoilt : Stmt := topS 48
theorem joinL_len {B : Nat} : ∀ {ps : List (List Nat)}, (∀ p ∈ ps, p.length ≤ B) → (joinL [32] ps).length ≤ ps.length * (B + 1)
  | [], _ => Nat.zero_le _
  | [p], h => by have := h p List.mem_cons_self; show p.length ≤ 1 * (B + 1); omega
  | p :: q :: r, h => by
    have h1 := h p List.mem_cons_self
    have h2 := joinL_len (ps := q :: r) fun x hx => h x (List.mem_cons_of_mem _ hx)
    rw [joinL_cons, List.length_append, List.length_cons, List.length_cons (a := p), Nat.succ_mul]
    omega
theorem aL_len {a : AV} (g : aB a = true) : (aL a).length ≤ 600 := by
  cases a with
  | i n =>
    obtain ⟨h1, h2⟩ : -99999 ≤ n ∧ n ≤ 99999 := of_decide_eq_true g
    rcases (show n < 0 ∨ 0 ≤ n by omega) with hn | hn
    · obtain ⟨m, rfl⟩ : ∃ m : Nat, n = -((m : Nat) : Int) := ⟨n.natAbs, by omega⟩
      rw [aL_neg (by omega), List.length_cons]
      have := (numT_dig (show m ≤ 99999 by omega)).2.1
      omega
    · obtain ⟨m, rfl⟩ : ∃ m : Nat, n = ((m : Nat) : Int) := ⟨n.natAbs, by omega⟩
      have := (numT_dig (show m ≤ 99999 by omega)).2.1
      show (numT m).length ≤ 600
      omega
  | s z =>
    unfold aB strV at g
    rw [Bool.and_eq_true] at g
    have := of_decide_eq_true g.1
    have e2 : z.cps.toList.length = z.length := Array.length_toList
    rw [aL_str, List.length_append, List.length_append, e2]
    show 1 + z.length + 1 ≤ 600
    omega
theorem name_len {z : Str} (h : nameB z = true) : z.cps.toList.length ≤ 600 := by
  have e2 : z.cps.toList.length = z.length := Array.length_toList
  have := (name_let h).2.2
  omega
theorem wR_len {x : Rec} (h : RecOK x) : (wR x).length ≤ 4300 ∧ 1 ≤ (wR x).length := by
  have e : (wR x).cps.toList.length = (wR x).length := Array.length_toList
  have hw : (wordR x).cps.toList.length ≤ 7 := by cases x <;> exact Nat.le_of_ble_eq_true rfl
  have hp : (∀ p ∈ partL x, p.length ≤ 600) ∧ (partL x).length ≤ 7 := by
    cases x with
    | ent xs => rcases h with rfl | rfl | rfl <;> exact ⟨by decide +kernel, by decide⟩
    | txt m t =>
      obtain ⟨h1, h2, h3⟩ := h
      refine ⟨fun p hp => ?_, Nat.le_of_ble_eq_true rfl⟩
      rcases List.mem_cons.mp hp with rfl | hp
      · exact name_len h1
      · rw [List.mem_singleton.mp hp, List.length_map]
        have e2 : t.cps.toList.length = t.length := Array.length_toList
        omega
    | rem m =>
      refine ⟨fun p hp => ?_, Nat.le_of_ble_eq_true rfl⟩
      rw [List.mem_singleton.mp hp]
      exact name_len h
    | upd n =>
      have hn : n ≤ 8 := h
      refine ⟨fun p hp => ?_, Nat.le_of_ble_eq_true rfl⟩
      rw [List.mem_singleton.mp hp]
      have := (numT_dig (show n ≤ 99999 by omega)).2.1
      omega
    | call hh n m f ad =>
      obtain ⟨h1, h2, h3, h4, h5⟩ := h
      have q := argsB_sm h5
      refine ⟨fun p hp => ?_, by show (ad.map _).length + 1 + 1 + 1 + 1 ≤ 7; rw [List.length_map]; omega⟩
      rcases List.mem_cons.mp hp with rfl | hp
      · have := (numT_dig (show hh ≤ 99999 by omega)).2.1
        omega
      rcases List.mem_cons.mp hp with rfl | hp
      · have := (numT_dig (show n ≤ 99999 by omega)).2.1
        omega
      rcases List.mem_cons.mp hp with rfl | hp
      · exact name_len h3
      rcases List.mem_cons.mp hp with rfl | hp
      · exact name_len h4
      obtain ⟨a, ha, rfl⟩ := List.mem_map.mp hp
      exact aL_len (q.2 a ha)
  have j := joinL_len hp.1
  have : (partL x).length * (600 + 1) ≤ 7 * 601 := Nat.mul_le_mul_right _ hp.2
  rw [← e, wR_split (partL_ne h), List.length_append, List.length_cons]
  omega
/-- a record as data -/
def recD : Rec → PyData
  | .ent xs => .tuple [.str "entries", .tuple (xs.map .str)]
  | .txt m t => .tuple [.str "text", .str m, .str t]
  | .rem m => .tuple [.str "remove", .str m]
  | .upd n => .tuple [.str "update", .int (n : Nat)]
  | .call h n m f ad => .tuple [.str "call", .int (h : Nat), .int (n : Nat), .str m, .str f, .tuple (ad.map aD)]
theorem strs_td {H : Hp} : ∀ xs : List Str, TDs H (xs.map V.str) (xs.map PyData.str)
  | [] => .nil
  | x :: r => .cons (.str x) (strs_td r)
theorem recD_td {H : Hp} {r : Addr} {x : Rec} (h : RecAt H r x) : TD H (.ref r) (recD x) := by
  obtain ⟨a, e1, e2⟩ := h
  cases x with
  | ent xs => exact .tup e1 (.cons (.str _) (.cons (.tup (e2 _ rfl) (strs_td xs)) .nil))
  | txt m t => exact .tup e1 (.cons (.str _) (.cons (.str _) (.cons (.str _) .nil)))
  | rem m => exact .tup e1 (.cons (.str _) (.cons (.str _) .nil))
  | upd n => exact .tup e1 (.cons (.str _) (.cons (.int _) .nil))
  | call h n m f ad => exact .tup e1 (.cons (.str _) (.cons (.int _) (.cons (.int _) (.cons (.str _) (.cons (.str _) (.cons (.tup (e2 _ rfl) (aD_td ad)) .nil))))))
theorem ch_fit {z : Str} {n : Nat} (h1 : z.length ≤ n) (h2 : ∀ c ∈ z.cps.toList, c = 10 ∨ isCh c = true) (hn : n ≤ 600) : Fit (.str z) 1 7000 := by
  refine (Fit.str h1 fun c hc => ?_).more (by decide) (by omega)
  rcases h2 c hc with rfl | h
  · decide
  · have := of_decide_eq_true h
    omega
theorem nm_fit {z : Str} (h : nameB z = true) : Fit (.str z) 1 7000 := ch_fit (n := 6) (name_let h).2.2 (fun c hc => .inr (let_ch ((name_let h).1 c hc))) (by decide)
theorem recD_fit {x : Rec} (h : RecOK x) : Fit (recD x) 2 60000 := by
  have wd : ∀ z : Str, z.length ≤ 600 → (∀ c ∈ z.cps.toList, isCh c = true) → Fit (.str z) 1 7000 := fun z h1 h2 => ch_fit h1 (fun c hc => .inr (h2 c hc)) (by decide)
  have tup : ∀ ds : List PyData, ds.length ≤ 6 → (∀ d ∈ ds, Fit d 1 7000) → Fit (.tuple ds) 2 60000 := fun ds hl h => (Fit.tup h).more (by decide) (by have := Nat.mul_le_mul_right (7000 + 2) hl; omega)
  cases x with
  | ent xs =>
    refine tup _ (by simp) fun d hd => ?_
    rcases List.mem_cons.mp hd with rfl | hd
    · exact wd _ (by decide) (by decide +kernel)
    rw [List.mem_singleton.mp hd]
    have hx : xs.length ≤ 3 ∧ ∀ z ∈ xs, nameB z = true := by rcases h with rfl | rfl | rfl <;> exact ⟨by decide, by decide +kernel⟩
    refine (Fit.tup (k := 0) (B := 70) fun d hd => ?_).more (by decide) (by rw [List.length_map]; have := Nat.mul_le_mul_right (70 + 2) hx.1; omega)
    obtain ⟨z, hz, rfl⟩ := List.mem_map.mp hd
    refine (Fit.str (n := 6) (name_let (hx.2 z hz)).2.2 fun c hc => ?_).more (by decide) (by decide)
    have := of_decide_eq_true (let_ch ((name_let (hx.2 z hz)).1 c hc))
    omega
  | txt m t =>
    obtain ⟨h1, h2, h3⟩ := h
    refine tup _ (by simp) fun d hd => ?_
    rcases List.mem_cons.mp hd with rfl | hd
    · exact wd _ (by decide) (by decide +kernel)
    rcases List.mem_cons.mp hd with rfl | hd
    · exact nm_fit h1
    rw [List.mem_singleton.mp hd]
    exact ch_fit h2 (fun c hc => (h3 c hc).imp id And.left) (by decide)
  | rem m =>
    refine tup _ (by simp) fun d hd => ?_
    rcases List.mem_cons.mp hd with rfl | hd
    · exact wd _ (by decide) (by decide +kernel)
    rw [List.mem_singleton.mp hd]
    exact nm_fit h
  | upd n =>
    have hn : n ≤ 8 := h
    refine tup _ (by simp) fun d hd => ?_
    rcases List.mem_cons.mp hd with rfl | hd
    · exact wd _ (by decide) (by decide +kernel)
    rw [List.mem_singleton.mp hd]
    exact (Fit.num (n := n) (by omega)).more (by decide) (by decide)
  | call hh n m f ad =>
    obtain ⟨h1, h2, h3, h4, h5⟩ := h
    refine tup _ (by simp) fun d hd => ?_
    rcases List.mem_cons.mp hd with rfl | hd
    · exact wd _ (by decide) (by decide +kernel)
    rcases List.mem_cons.mp hd with rfl | hd
    · exact (Fit.num (n := hh) (by omega)).more (by decide) (by decide)
    rcases List.mem_cons.mp hd with rfl | hd
    · exact (Fit.num (n := n) (by omega)).more (by decide) (by decide)
    rcases List.mem_cons.mp hd with rfl | hd
    · exact nm_fit h3
    rcases List.mem_cons.mp hd with rfl | hd
    · exact nm_fit h4
    rw [List.mem_singleton.mp hd]
    exact (ag_sh (o := some ad) (fun ad' e => by cases e; exact h5)).more (by decide) (by decide)
theorem cut_pre (z : Str) (a : Nat) : (cutS z none (some (a : Nat))).length ≤ a := by
  unfold cutS
  show (List.toArray _).size ≤ a
  rw [List.size_toArray, List.length_take, HT.sIx_nat]
  show min (min a z.length - 0) _ ≤ a
  omega
theorem cut_suf (z : Str) {a : Nat} (h : a ≤ z.length) : (cutS z (some (a : Nat)) none).length ≤ z.length - a := by
  unfold cutS
  show (List.toArray _).size ≤ _
  rw [List.size_toArray, List.length_take, List.length_drop, HT.sIx_nat, Array.length_toList]
  show min _ (z.length - min a z.length) ≤ _
  omega
def menuS : List Str := ["", "entries", "entries a a", "entries a b c d", "entries let", "text", "text a", "text A x", "remove", "remove if", "update 9", "update 01",
  "call 3 0 a f", "call 0 10000 a f", "call 0 0 a", "call 0 0 a f 1 2 3 4", "call 0 0 a f 100000", "call 0 0 a f -0", "call 0 0 a f  1", "call 0 0 a f \"x"]
theorem menu_len : menuS.length = 20 ∧ ∀ z ∈ menuS, z.length ≤ 40 := by decide +kernel
section
variable {P : Program} {w : World} {K : PySem.W.Frag} {mg : Str → Option Value} {base : Heap} {PN PV : Addr}
def spSpoilt : L2.Sp := fun vs H Q _ => ∃ (b d : Addr) (ds : List Int) (n : Nat) (z : Str), vs = [.ref b, .str z] ∧ Box H b d ds n ∧ 1 ≤ z.length ∧ z.length ≤ 4300 ∧
  ∀ H' n' z', Bs b d ds H H' n' → z'.length ≤ 4400 → Q (.str z') H'
theorem scSpoilt : FnScope ["box", "text", "at", "sign", "kind", "menu"] ["box", "text"] (defScope sSpoilt) := ⟨rfl, rfl, rfl, by decide +kernel, rfl, by decide +kernel, by decide +kernel⟩
theorem ok_spoilt {f f1 : Addr} {fd fd1 : FuncData} (F : Fun K "_law_spoilt" "_law_spoilt" sSpoilt f fd) (T : Txt K mg)
    (FD : FO P w K mg base CX0 1 "_law_draw" ["box", "many"] spDraw f1 fd1) : FnOk P w K mg base CX0 2 f fd ["box", "text"] spSpoilt := by
  have sc := scSpoilt
  have T3 := T
  refine F.ok sc (fun vs H Q E h => ?_) (fun cdv A outer s H vs Q E hr h => ?_)
  · obtain ⟨b, d, ds, n, z, rfl, _⟩ := h
    rfl
  · obtain ⟨b, d, ds, n, z, rfl, hB, hz1, hz2, q⟩ := h
    refine ⟨_, (pss_cons (ps_set (i := 2) sc.nd rfl (Or.inl rfl) (pe_call FD.ok (hr.mono (by decide)) (by rfl) FD.m FD.kp FD.b .nil pass0 (pa_cons (pv 0) (pa_cons (pe_callB call_len_str (by rfl) T.len (by decide +kernel) (pa_cons (pv 1) pa_nil)) pa_nil))))
      (pss_cons (ps_set (i := 3) sc.nd rfl (Or.inl rfl) (pe_item_str pe_str (pe_call FD.ok (hr.mono (by decide)) (by rfl) FD.m FD.kp FD.b .nil pass0 (pa_cons (pv 0) (pa_cons pe_int pa_nil))) (fun _ _ => rfl)))
      (pss_cons (ps_set (i := 4) sc.nd rfl (Or.inl rfl) (pe_call FD.ok (hr.mono (by decide)) (by rfl) FD.m FD.kp FD.b .nil pass0 (pa_cons (pv 0) (pa_cons pe_int pa_nil))))
      (pss_cons (ps_if (pt_cmpR op_eq (pv 4) pe_int (nomark _))
      (pss_one (ps_ret (pe_op op_add_str (pe_slice sl_str (pv 1) po_none (po_some (pv 2))) (pe_slice sl_str (pv 1) (po_some (pe_op op_add (pv 2) pe_int)) po_none))))
      pss_nil)
      (pss_cons (ps_if (pt_cmpR op_eq (pv 4) pe_int (nomark _))
      (pss_one (ps_ret (pe_op op_add_str (pe_op op_add_str (pe_slice sl_str (pv 1) po_none (po_some (pv 2))) (pv 3)) (pe_slice sl_str (pv 1) (po_some (pv 2)) po_none))))
      pss_nil)
      (pss_cons (ps_if (pt_cmpR op_eq (pv 4) pe_int (nomark _))
      (pss_one (ps_ret (pe_op op_add_str (pe_op op_add_str (pe_slice sl_str (pv 1) po_none (po_some (pv 2))) (pv 3)) (pe_slice sl_str (pv 1) (po_some (pe_op op_add (pv 2) pe_int)) po_none))))
      pss_nil)
      (pss_cons (ps_set (i := 5) sc.nd rfl (Or.inl rfl) (pe_lst (pa_cons pe_str (pa_cons pe_str (pa_cons pe_str (pa_cons pe_str (pa_cons pe_str (pa_cons pe_str (pa_cons pe_str (pa_cons pe_str (pa_cons pe_str (pa_cons pe_str (pa_cons pe_str (pa_cons pe_str pa_nil))))))))))))))
      (pss_cons (ps_set (i := 5) sc.nd rfl (Or.inl rfl) (pe_op op_cat (pv 5) (pe_lst (pa_cons pe_str (pa_cons pe_str (pa_cons pe_str (pa_cons pe_str (pa_cons pe_str (pa_cons pe_str (pa_cons pe_str (pa_cons pe_str pa_nil)))))))))))
      (pss_one (ps_ret (pe_ix ix_list (pv 5) (pe_call FD.ok (hr.mono (by decide)) (by rfl) FD.m FD.kp FD.b .nil pass0 (pa_cons (pv 0) (pa_cons pe_int pa_nil))) (fun _ _ => rfl)))))))))))), ?_⟩
    refine ⟨_, rfl, _, rfl, z, rfl, szle (by omega), b, d, ds, n, _, rfl, hB, by omega, fun r0 h0 h1 => ?_⟩
    have b1 := (Bs.refl hB).draw
    generalize upd H b (.lst [.ref d, .int ((n + 1 : Nat) : Int)]) = H1 at *
    obtain ⟨a, rfl, ha⟩ := idx (m := z.length) h0 h1
    refine ⟨_, rfl, b, d, ds, n + 1, 8, rfl, b1.box, by decide, fun r1 h2 h3 => ?_⟩
    have b2 := b1.draw
    generalize upd H1 b (.lst [.ref d, .int ((n + 1 + 1 : Nat) : Int)]) = H2 at *
    obtain ⟨j, rfl, hj⟩ := idx (m := 8) h2 h3
    obtain ⟨c, hc⟩ : ∃ c, (Str.ofString " 0\"a.-9|").cps[((j : Nat) : Int).toNat]? = some c := ⟨_, Array.getElem?_eq_getElem (show j < (Str.ofString " 0\"a.-9|").cps.size from hj)⟩
    refine ⟨_, j, c, rfl, rfl, by omega, by omega, by show ((j : Nat) : Int) < (8 : Nat); omega, hc, ?_⟩
    refine ⟨_, rfl, b, d, ds, n + 1 + 1, 4, rfl, b2.box, by decide, fun r2 h4 h5 => ?_⟩
    have b3 := b2.draw
    generalize upd H2 b (.lst [.ref d, .int ((n + 1 + 1 + 1 : Nat) : Int)]) = H3 at *
    have zs : z.length ≤ sizeLine := szle (by omega)
    have c1 := cut_pre z a
    have c2 := cut_suf z (a := a) (by omega)
    have c3 := cut_suf z (a := a + 1) (by omega)
    have big : ∀ {k : Nat}, k ≤ 20000 → k ≤ sizeLine := fun h => Nat.le_trans h (by decide)
    refine ⟨_, rfl, rfl, _, rfl, ite2 (fun h => ?_) (fun n1 => ?_)⟩
    · refine ⟨_, rfl, _, rfl, _, rfl, z, rfl, zs, ?_⟩
      refine ⟨_, rfl, _, rfl, _, _, rfl, rfl, _, rfl, z, rfl, zs, ?_⟩
      refine ⟨_, _, rfl, rfl, big (Nat.le_trans (Nat.add_le_add c1 (cutS_length z _ _)) (by omega)), ?_⟩
      exact q _ _ _ b3 (by rw [add_len]; exact Nat.le_trans (Nat.add_le_add c1 c3) (by omega))
    refine ⟨_, rfl, rfl, _, rfl, ite2 (fun h => ?_) (fun n2 => ?_)⟩
    · refine ⟨_, rfl, _, rfl, _, rfl, z, rfl, zs, ?_⟩
      refine ⟨_, rfl, _, _, rfl, rfl, big (Nat.le_trans (Nat.add_le_add_right c1 _) (by show a + 1 ≤ 20000; omega)), ?_⟩
      refine ⟨_, rfl, _, rfl, _, rfl, z, rfl, zs, ?_⟩
      refine ⟨_, _, rfl, rfl, ?_, ?_⟩
      · rw [add_len]
        exact big (Nat.le_trans (Nat.add_le_add (Nat.add_le_add_right c1 _) c2) (by show a + 1 + _ ≤ 20000; omega))
      · exact q _ _ _ b3 (by rw [add_len, add_len]; exact Nat.le_trans (Nat.add_le_add (Nat.add_le_add_right c1 _) c2) (by show a + 1 + _ ≤ 4400; omega))
    refine ⟨_, rfl, rfl, _, rfl, ite2 (fun h => ?_) (fun n3 => ?_)⟩
    · refine ⟨_, rfl, _, rfl, _, rfl, z, rfl, zs, ?_⟩
      refine ⟨_, rfl, _, _, rfl, rfl, big (Nat.le_trans (Nat.add_le_add_right c1 _) (by show a + 1 ≤ 20000; omega)), ?_⟩
      refine ⟨_, rfl, _, rfl, _, _, rfl, rfl, _, rfl, z, rfl, zs, ?_⟩
      refine ⟨_, _, rfl, rfl, ?_, ?_⟩
      · rw [add_len]
        exact big (Nat.le_trans (Nat.add_le_add (Nat.add_le_add_right c1 _) c3) (by show a + 1 + _ ≤ 20000; omega))
      · exact q _ _ _ b3 (by rw [add_len, add_len]; exact Nat.le_trans (Nat.add_le_add (Nat.add_le_add_right c1 _) c3) (by show a + 1 + _ ≤ 4400; omega))
    refine ⟨(show 12 ≤ sizeLine by decide), fun l1 nl1 => ?_⟩
    refine ⟨_, rfl, (show 8 ≤ sizeLine by decide), fun l2 nl2 => ?_⟩
    have b4 := b3.new (o := .lst ((menuS.take 12).map V.str)) nl1
    have e1 : upd H3 l1 (.lst ((menuS.take 12).map V.str)) l1 = some (.lst ((menuS.take 12).map V.str)) := upd_same
    refine ⟨l1, l2, (menuS.take 12).map V.str, (menuS.drop 12).map V.str, rfl, rfl, (by rw [upd_ne (ne_of_none e1 nl2)]; exact e1), upd_same, (show 20 ≤ sizeLine by decide), fun l3 nl3 => ?_⟩
    have b5 := b4.new (o := .lst ((menuS.drop 12).map V.str)) nl2
    have b6 := b5.new (o := .lst ((menuS.take 12).map V.str ++ (menuS.drop 12).map V.str)) nl3
    refine ⟨_, rfl, _, rfl, b, d, ds, n + 1 + 1 + 1, 20, rfl, b6.box, by decide, fun r5 h6 h7 => ?_⟩
    obtain ⟨b7, e7, _⟩ := pick_at (xs := (menuS.take 12).map V.str ++ (menuS.drop 12).map V.str) b5 nl3
    obtain ⟨i, rfl, hi⟩ := idx (m := 20) h6 h7
    have em : (menuS.take 12).map V.str ++ (menuS.drop 12).map V.str = menuS.map V.str := rfl
    have hin : i < menuS.length := by rw [menu_len.1]; exact hi
    refine ⟨l3, _, _, .str menuS[i], rfl, rfl, SqL.of e7, atI_nat (by rw [em, List.getElem?_map, List.getElem?_eq_getElem hin]; rfl), ?_⟩
    exact q _ _ _ b7 (Nat.le_trans (menu_len.2 _ (List.getElem_mem hin)) (by decide))
end
end K6

set_option maxRecDepth 100000
set_option maxHeartbeats 8000000
/-! the law -/
namespace K6
open PySem hiding Tok code
open PySem.Spec PyProof.Rows GD K1
open L2 hiding rest
abbrev sLaw45 : Stmt := topS 49
/-- box and tables -/
structure LI (PN PV b d : Addr) (dg : List Int) (H : Hp) (n : Nat) : Prop where
  box : Box H b d dg n
  t : T2 PN PV H
section
variable {PN PV b d : Addr} {dg : List Int} {H H1 : Hp} {n n1 : Nat}
theorem LI.st (h : LI PN PV b d dg H n) (s : ST PN PV H H1) : LI PN PV b d dg H1 n :=
  ⟨⟨s.k _ _ (fun _ z => by cases z) h.box.1, s.k _ _ (fun _ z => by cases z) h.box.2.1, h.box.2.2⟩, s.t⟩
theorem LI.sm (h : LI PN PV b d dg H n) (s : Same H H1) : LI PN PV b d dg H1 n := h.st (h.t.st s)
theorem LI.bs (h : LI PN PV b d dg H n) (s : Bs b d dg H H1 n1) : LI PN PV b d dg H1 n1 := by
  refine ⟨s.box, ?_, ?_⟩
  · obtain ⟨ps, e, r⟩ := h.t.n
    exact ⟨ps, s.bx _ _ (fun z => by rw [z, h.box.1] at e; cases e) e, r⟩
  · obtain ⟨ps, e, r⟩ := h.t.v
    exact ⟨ps, s.bx _ _ (fun z => by rw [z, h.box.1] at e; cases e) e, r⟩
theorem RecAt.bs {r : Addr} {x : Rec} (h : RecAt H r x) (l : Box H b d dg n) (s : Bs b d dg H H1 n1) : RecAt H1 r x := by
  obtain ⟨a, e1, e2⟩ := h
  exact ⟨a, s.bx _ _ (fun z => by rw [z, l.1] at e1; cases e1) e1, fun v hv => s.bx _ _ (fun z => by have := e2 v hv; rw [z, l.1] at this; cases this) (e2 v hv)⟩
theorem RecAt.st {r : Addr} {x : Rec} (h : RecAt H r x) (s : ST PN PV H H1) : RecAt H1 r x := by
  obtain ⟨a, e1, e2⟩ := h
  exact ⟨a, s.k _ _ (fun _ z => by cases z) e1, fun v hv => s.k _ _ (fun _ z => by cases z) (e2 v hv)⟩
end
section
variable {P : Program} {w : World} {K : PySem.W.Frag} {mg : Str → Option Value} {base : Heap} {PN PV : Addr}
def spLaw (K : PySem.W.Frag) (PN PV : Addr) : L2.Sp := fun vs H Q _ => ∃ (a : Addr) (ns : List Int), vs = [.ref a] ∧ SqL K H a (ns.map V.int) ∧ T2 PN PV H ∧ ∀ H', Q (.bl true) H'
theorem scLaw : FnScope ["script", "box", "turn", "record", "text", "other", "told", "bad"] ["script"] (defScope sLaw45) := ⟨rfl, rfl, rfl, by decide +kernel, rfl, by decide +kernel, by decide +kernel⟩
theorem ok_law45 {f f1 f2 f3 f4 f5 f6 fa : Addr} {fd fd1 fd2 fd3 fd4 fd5 fd6 fda : FuncData} (F : Fun K "law" "law" sLaw45 f fd) (T : Txt K mg)
    (G1 : FO P w K mg base CX0 2 "_law_digits" ["script", "first", "last"] (spDigits K) f1 fd1) (GR : FO P w K mg base CX0 3 "_law_record" ["box"] spRecord f2 fd2)
    (GT : FO P w K mg base CX0 2 "_law_record_text" ["record"] spWRec f3 fd3) (GW : FO P w K mg base CX0 2 "write_record" ["record"] spWRec f4 fd4)
    (GE : FO P w K mg base CX0 9 "read_record" ["text"] (spRead PN PV) f5 fd5) (GS : FO P w K mg base CX0 2 "_law_spoilt" ["box", "text"] spSpoilt f6 fd6)
    (FA : FnG P w K mg base CX0 1 fa fda ["one", "two"] (spAlike K)) (ma : mg "_law_alike" = some (.ref fa)) (ka : PySem.W.keepIn K (.ref fa) = true) (ba : Binds K fda ["one", "two"] []) :
    FnG P w K mg base CX0 10 f fd ["script"] (spLaw K PN PV) := by
  have sc := scLaw
  have T3 := T
  refine okG F sc (fun vs H Q E h => ?_) (fun cdv A outer s H vs Q E hgd hr h => ?_)
  · obtain ⟨a, ns, rfl, _⟩ := h
    rfl
  · obtain ⟨a, ns, rfl, hS, t2, q⟩ := h
    have hr1 : Room 1 _ := hr.mono (by decide)
    refine ⟨_, (pss_cons (ps_set (i := 1) sc.nd rfl (Or.inl rfl) (pe_lst (pa_cons (pe_call G1.ok (hr.mono (by decide)) (by rfl) G1.m G1.kp G1.b .nil pass0 (pa_cons (pv 0) (pa_cons pe_int (pa_cons pe_int pa_nil)))) (pa_cons pe_int pa_nil))))
      (pss_cons (ps_for PassesOwn.never rfl (pi_range1 rfl T.range (pa_cons pe_int pa_nil)) (pg_name (i := 2) sc.nd rfl (Or.inl rfl))
      (pss_cons (ps_set (i := 3) sc.nd rfl (Or.inl rfl) (pe_call GR.ok (hr.mono (by decide)) (by rfl) GR.m GR.kp GR.b .nil pass0 (pa_cons (pv 1) pa_nil)))
      (pss_cons (ps_set (i := 4) sc.nd rfl (Or.inl rfl) (pe_call GT.ok (hr.mono (by decide)) (by rfl) GT.m GT.kp GT.b .nil pass0 (pa_cons (pv 3) pa_nil)))
      (pss_cons (ps_if (PW.pt (pw_or (pt_cmpR op_ne (pe_call GW.ok (hr.mono (by decide)) (by rfl) GW.m GW.kp GW.b .nil pass0 (pa_cons (pv 3) pa_nil)) (pv 4) (nomark _)) (pw_or1 (pt_not (pt_val (pe_callG FA hgd hr1 (by rfl) ma ka ba .nil pass0 (pa_cons (pe_call GE.ok hr (by rfl) GE.m GE.kp GE.b .nil pass0 (pa_cons (pv 4) pa_nil)) (pa_cons (pv 3) pa_nil))))))))
      (pss_one (ps_ret pe_bl))
      pss_nil)
      (pss_cons (ps_set (i := 5) sc.nd rfl (Or.inl rfl) (pe_call GS.ok (hr.mono (by decide)) (by rfl) GS.m GS.kp GS.b .nil pass0 (pa_cons (pv 1) (pa_cons (pv 4) pa_nil))))
      (pss_cons (ps_set (i := 6) sc.nd rfl (Or.inl rfl) (pe_call GE.ok hr (by rfl) GE.m GE.kp GE.b .nil pass0 (pa_cons (pv 5) pa_nil)))
      (pss_cons (ps_if (PW.pt (pw_and (pt_cmpR op_notN (pv 6) pe_non (nomark _)) (pw_and1 (pt_cmpR op_ne (pe_call GT.ok (hr.mono (by decide)) (by rfl) GT.m GT.kp GT.b .nil pass0 (pa_cons (pv 6) pa_nil)) (pv 5) (nomark _)))))
      (pss_one (ps_ret pe_bl))
      pss_nil)
      (pss_one (ps_if (PW.pt (pw_and (pt_cmpR op_ne (pe_ix ix_tup (pv 3) pe_int (fun _ _ => rfl)) pe_str (nomark _)) (pw_and1 (PW.pt (pw_or (pt_cmpR op_notN (pe_call GE.ok hr (by rfl) GE.m GE.kp GE.b .nil pass0 (pa_cons (pe_op op_add_str (pv 4) pe_str) pa_nil)) pe_non (nomark _)) (pw_or1 (pt_cmpR op_notN (pe_call GE.ok hr (by rfl) GE.m GE.kp GE.b .nil pass0 (pa_cons (pe_op op_add_str pe_str (pv 4)) pa_nil)) pe_non (nomark _))))))))
      (pss_one (ps_ret pe_bl))
      pss_nil)))))))))
      (pss_cons (ps_for PassesOwn.never rfl (pi_tup (pe_tup (pa_cons pe_str (pa_cons pe_str (pa_cons pe_str (pa_cons pe_str (pa_cons pe_str (pa_cons pe_str (pa_cons pe_str (pa_cons pe_str (pa_cons (pe_op op_add_str pe_str (pe_op op_rep_str pe_str pe_int)) (pa_cons pe_str (pa_cons pe_str (pa_cons pe_str (pa_cons pe_str (pa_cons pe_str (pa_cons pe_str (pa_cons pe_str (pa_cons pe_str (pa_cons (pe_op op_add_str (pe_op op_add_str pe_str (pe_op op_rep_str pe_str pe_int)) pe_str) (pa_cons pe_str (pa_cons pe_str pa_nil)))))))))))))))))))))) (pg_name (i := 7) sc.nd rfl (Or.inl rfl))
      (pss_one (ps_if (pt_cmpR op_notN (pe_call GE.ok hr (by rfl) GE.m GE.kp GE.b .nil pass0 (pa_cons (pv 7) pa_nil)) pe_non (nomark _))
      (pss_one (ps_ret pe_bl))
      pss_nil)))
      (pss_one (ps_ret pe_bl))))), ?_⟩
    refine ⟨_, rfl, a, ns, rfl, hS, fun H1 d dg s1 nd ed ld => ⟨two_le, fun b nb => ?_⟩⟩
    have li0 : LI PN PV b d dg (upd H1 b (.lst [.ref d, .int 0])) 0 := ⟨⟨upd_same, by rw [upd_ne (ne_of_none ed nb)]; exact ed, ld⟩, (t2.st (snew s1 nb)).t⟩
    generalize upd H1 b (.lst [.ref d, .int 0]) = H2 at *
    refine gn ?_
    refine nxp ?_
    refine seq_mid (A := tFor _ _ _) (fun σ' H' => ∃ (y2 y3 y4 y5 y6 y7 : Option V) (n' : Nat), σ' = [some (.ref a), some (.ref b), y2, y3, y4, y5, y6, y7] ∧ LI PN PV b d dg H' n') ?_ (fun mid0 => ?_)
    rotate_left
    · refine ⟨_, rfl, by decide, by decide, for_range (lo := 0) (n := 12) (fun i σ' H' => ∃ (y2 y3 y4 y5 y6 y7 : Option V) (n' : Nat), σ' = [some (.ref a), some (.ref b), y2, y3, y4, y5, y6, y7] ∧ LI PN PV b d dg H' n') ⟨_, _, _, _, _, _, 0, rfl, li0⟩ ?_ (fun σ' H' hh => mid0 σ' H' hh)⟩
      rintro i σ H3 hi ⟨y2, y3, y4, y5, y6, y7, n', rfl, li⟩
      refine ⟨_, rfl, b, d, dg, n', rfl, li.box, fun H4 n4 r x b4 hx ok => ?_⟩
      have li4 := li.bs b4
      have sm := ok.sm
      have hlen := wR_len ok
      refine ⟨_, rfl, r, x, rfl, hx, sm, fun H5 s5 => ?_⟩
      have hx5 := hx.up s5
      have li5 := li4.sm s5
      refine ⟨_, rfl, r, x, rfl, hx5, sm, fun H6 s6 => ?_⟩
      have hx6 := hx5.up s6
      have li6 := li5.sm s6
      refine ⟨_, rfl, rfl, _, rfl, iteE (by simp) ?_⟩
      have ll : (wR x).cps.toList.length = (wR x).length := Array.length_toList
      refine ⟨_, rfl, (wR x).cps.toList, by rw [S_of]; rfl, by omega, li6.t, fun H7 s7 => ⟨fun hn => ?_, fun y r' hy hr' => ?_⟩⟩
      · rw [read_back ok] at hn
        cases hn
      obtain rfl : x = y := Option.some.inj ((read_back ok).symm.trans hy)
      have hx7 := RecAt.st hx6 s7
      have li7 := li6.st s7
      have ft := recD_fit ok
      refine ⟨_, rfl, .ref r', .ref r, recD x, rfl, (recD_td hr').dp, (recD_td hx7).dp, (by cases x <;> exact fun z => by cases z), ft.sh, ft.nd, Nat.le_trans ft.dp (by decide), Nat.le_trans ft.ln (by decide), ?_⟩
      refine ⟨_, rfl, ?_⟩
      refine iteF ?_
      refine ⟨_, rfl, _, rfl, b, d, dg, n4, wR x, rfl, li7.box, hlen.2, hlen.1, fun H8 n8 z' b8 lz => ?_⟩
      have li8 := li7.bs b8
      have hx8 := RecAt.bs hx7 li7.box b8
      have lz2 : z'.cps.toList.length = z'.length := Array.length_toList
      refine gn ?_
      refine nxp ?_
      refine seq_mid (A := tAsg _ _) (fun σ' H' => ∃ (v : V), σ' = [some (.ref a), some (.ref b), some (.int (0 + (i : Nat))), some (.ref r), some (.str (wR x)), some (.str z'), some v, y7] ∧ LI PN PV b d dg H' n8 ∧ RecAt H' r x ∧ (v = .non ∨ ∃ r2 y2, v = .ref r2 ∧ RecAt H' r2 y2 ∧ RecSm y2 ∧ wR y2 = z')) ?_ (fun mid1 => ?_)
      rotate_left
      · refine ⟨_, rfl, z'.cps.toList, by rw [S_of]; rfl, by omega, li8.t, fun H9 s9 => ⟨fun hn => ?_, fun y r2 hy hr2 => ?_⟩⟩
        · exact mid1 _ _ ⟨_, rfl, li8.st s9, RecAt.st hx8 s9, .inl rfl⟩
        · exact mid1 _ _ ⟨_, rfl, li8.st s9, RecAt.st hx8 s9, .inr ⟨r2, y, rfl, hr2, readM_sm (by omega) hy, by rw [(readM_some hy).2.2, S_of]⟩⟩
      rintro σ' H9 ⟨v, rfl, li9, hx9, hv⟩
      refine seq_mid (A := tIfS _ _ _) (fun σ' H' => σ' = [some (.ref a), some (.ref b), some (.int (0 + (i : Nat))), some (.ref r), some (.str (wR x)), some (.str z'), some v, y7] ∧ LI PN PV b d dg H' n8 ∧ RecAt H' r x) ?_ (fun mid2 => ?_)
      rotate_left
      · rcases hv with rfl | ⟨r2, y, rfl, hr2, sy, ey⟩
        · refine ⟨_, rfl, rfl, _, rfl, ?_⟩
          refine iteF ?_
          refine iteF ?_
          exact mid2 _ _ ⟨rfl, li9, hx9⟩
        · refine ⟨_, rfl, rfl, _, rfl, ?_⟩
          refine iteT ?_
          refine ⟨_, rfl, r2, y, rfl, hr2, sy, fun H10 s10 => ?_⟩
          refine ⟨_, rfl, rfl, _, rfl, ?_⟩
          refine iteE (by rw [ey]; simp) ?_
          exact mid2 _ _ ⟨rfl, li9.sm s10, hx9.up s10⟩
      rintro σ' H10 ⟨rfl, li10, hx10⟩
      obtain ⟨ra, er, _⟩ := hx10
      have w0 : (recV ra x)[0]? = some (.str (wordR x)) := by cases x <;> rfl
      refine ⟨_, rfl, r, _, _, _, rfl, rfl, SqT.of er, atI_nat (j := 0) w0, rfl, _, rfl, ?_⟩
      have fin : ∀ H', LI PN PV b d dg H' n8 → ∃ (y2 y3 y4 y5 y6 y7_1 : Option V) (n' : Nat), [some (V.ref a), some (.ref b), some (.int (0 + (i : Nat))), some (.ref r), some (.str (wR x)), some (.str z'), some v, y7] = [some (.ref a), some (.ref b), y2, y3, y4, y5, y6, y7_1] ∧ LI PN PV b d dg H' n' := fun H' l => ⟨_, _, _, _, _, _, n8, rfl, l⟩
      cases ht : isTxt x with
      | true =>
        have ew : wordR x = "text" := by cases x <;> first | rfl | cases ht
        refine iteE (by rw [ew]; simp) ?_
        refine iteF ?_
        exact fin _ li10
      | false =>
        have ew := word_text ht
        refine iteY (by simp [ew]) ?_
        have e1 : (Str.ofString " ").length = 1 := rfl
        have l1 : (wR x ++ Str.ofString " ").cps.toList = (wR x).cps.toList ++ [32] := add_list _ _
        have l2 : (Str.ofString " " ++ wR x).cps.toList = 32 :: (wR x).cps.toList := add_list _ _
        refine ⟨_, rfl, _, _, rfl, rfl, szle (by rw [e1]; omega), (wR x).cps.toList ++ [32], by rw [← l1, S_of]; rfl, by rw [List.length_append, ll]; show _ + 1 ≤ 5000; omega, li10.t, fun H11 s11 => ⟨fun _ => ?_, fun y r' hy hr' => ?_⟩⟩
        · refine ⟨rfl, _, rfl, ?_⟩
          refine iteF ?_
          refine ⟨_, rfl, _, _, rfl, rfl, szle (by rw [e1]; omega), 32 :: (wR x).cps.toList, by rw [← l2, S_of]; rfl, by rw [List.length_cons, ll]; omega, (li10.st s11).t, fun H12 s12 => ⟨fun _ => ?_, fun y r' hy hr' => ?_⟩⟩
          · refine ⟨rfl, _, rfl, ?_⟩
            refine iteF ?_
            exact fin _ ((li10.st s11).st s12)
          · rw [blank_read] at hy
            cases hy
        · rw [read_blank ok ht] at hy
          cases hy
    rintro σ' H3 ⟨y2, y3, y4, y5, y6, y7, n', rfl, li⟩
    have z601 : (⟨List.foldl (fun x1 x2 => x1 ++ x2) #[] (List.replicate (Int.toNat 601) (Str.ofString "x").cps)⟩ : Str) = S (List.replicate 601 120) := rep_one 120 601
    have z21 : (⟨List.foldl (fun x1 x2 => x1 ++ x2) #[] (List.replicate (Int.toNat 21) (Str.ofString "x").cps)⟩ : Str) = S (List.replicate 21 120) := rep_one 120 21
    have a601 : Str.ofString "text a " ++ S (List.replicate 601 120) = S ((Str.ofString "text a ").cps.toList ++ List.replicate 601 120) := str_eq (by rw [add_list]; rfl)
    have a21 : Str.ofString "call 0 0 a f \"" ++ S (List.replicate 21 120) ++ Str.ofString "\"" = S ((Str.ofString "call 0 0 a f \"").cps.toList ++ List.replicate 21 120 ++ [34]) := str_eq (by rw [add_list, add_list]; rfl)
    refine ⟨_, 601, rfl, rfl, by decide, by show ¬ ((1 : Int) > _); decide, by show Builtin.Str.tooLong (1 * 601) = false; decide, rfl, by decide, by decide +kernel, ?_⟩
    refine ⟨_, _, rfl, rfl, by rw [z601, S_len, List.length_replicate]; show 7 + 601 ≤ sizeLine; decide, ?_⟩
    refine ⟨_, 21, rfl, rfl, by decide, by show ¬ ((1 : Int) > _); decide, by show Builtin.Str.tooLong (1 * 21) = false; decide, rfl, by decide, by decide +kernel, ?_⟩
    refine ⟨_, _, rfl, rfl, by rw [z21, S_len, List.length_replicate]; show 14 + 21 ≤ sizeLine; decide, ?_⟩
    refine ⟨_, _, rfl, rfl, by rw [z21, add_len, S_len, List.length_replicate]; show 14 + 21 + 1 ≤ sizeLine; decide, ?_⟩
    rw [z601, z21, a601, a21]
    refine ⟨(show 20 ≤ sizeLine by decide), fun p np => ?_⟩
    have ep : upd H3 p (.tup (badT.map V.str)) p = some (.tup (badT.map V.str)) := upd_same
    have lip := li.sm (Same.lst (o := .tup (badT.map V.str)) (Same.refl _) np)
    refine ⟨p, rfl, ⟨_, SqT.of ep⟩, for_tup (K := K) (a := p) (xs := badT.map V.str) (fun i σ' H' => ∃ (y2 y3 y4 y5 y6 y7 : Option V) (n' : Nat), σ' = [some (.ref a), some (.ref b), y2, y3, y4, y5, y6, y7] ∧ LI PN PV b d dg H' n' ∧ H' p = some (.tup (badT.map V.str))) ⟨_, _, _, _, _, _, n', rfl, lip, ep⟩ (fun i σ' H' _ hI => ?_) (fun i v σ' H' hv hI => ?_) (fun σ' H' hI => q _)⟩
    · obtain ⟨_, _, _, _, _, _, _, rfl, _, e⟩ := hI
      exact SqT.of e
    · obtain ⟨y2, y3, y4, y5, y6, y7, n', rfl, li, e⟩ := hI
      rw [List.getElem?_map, Option.map_eq_some_iff] at hv
      obtain ⟨z, hz, rfl⟩ := hv
      have hzm := List.mem_of_getElem? hz
      have bad := bad_read z hzm
      have bl : ∀ z ∈ badT, z.cps.toList.length ≤ 5000 := by decide +kernel
      refine ⟨_, rfl, z.cps.toList, by rw [S_of]; rfl, bl z hzm, li.t, fun H4 s4 => ⟨fun _ => ?_, fun y r' hy _ => ?_⟩⟩
      · refine ⟨rfl, _, rfl, iteF ?_⟩
        exact ⟨_, _, _, _, _, _, n', rfl, li.st s4, s4.k _ _ (fun _ z => by cases z) e⟩
      · rw [hy] at bad
        cases bad
end
end K6

set_option maxRecDepth 100000
set_option maxHeartbeats 16000000
namespace K6
open PySem hiding Tok code
open PySem.Spec PyProof.Rows GD K1
open L2 hiding rest
abbrev sLaw : Stmt := topS 49
def strOf : Value → Option Str
  | .str x _ => some x
  | _ => none
theorem vals_strs : ∀ (l : List Str) (us : List Value), us.map strOf = l.map some → Vals (l.map V.str) us
  | [], [], _ => .nil
  | [], _ :: _, h => by cases h
  | _ :: _, [], h => by cases h
  | x :: l, u :: us, h => by
    have h1 : strOf u = some x := (List.cons.inj h).1
    have h2 : us.map strOf = l.map some := (List.cons.inj h).2
    refine .cons ?_ (vals_strs l us h2)
    cases u with
    | str z t =>
      have e : z = x := Option.some.inj h1
      subst e
      exact ⟨t, rfl⟩
    | _ => cases h1

theorem end_at {l : PySem.W.OpenLaw} {q : Program} {w : World} {K : PySem.W.Frag} {h : Heap} {mg : Str → Option Value} {fa : Addr} (X : K.In h) (G : h.Ns mainGlobals mg) (hfa : mg "law" = some (.ref fa)) (TB : TabsAt q K mg h)
    {f1 f2 f3 f4 f5 f6 f7 f8 f9 f10 f11 f12 f13 f14 f15 f16 f17 f18 f19 f20 f21 f22 f23 f24 f25 f26 f27 f28 f29 f30 f31 tcN tpN tcV tpV   ra : Addr} {od1 an1 od2 an2 od3 an3 od4 an4 od5 an5 od6 an6 od7 an7 od8 an8 od9 an9 od10 an10 od11 an11 od12 an12 od13 an13 od14 an14 od15 an15 od16 an16 od17 an17 od18 an18 od19 an19 od20 an20 od21 an21 od22 an22 od23 an23 od24 an24 od25 an25 od26 an26 od27 an27 od28 an28 od29 an29 od30 an30 od31 an31 tdN tdV dR : Option Addr} {sl1 sl2 sl3 sl4 sl5 sl6 sl7 sl8 sl9 sl10 sl11 sl12 sl13 sl14 sl15 sl16 sl17 sl18 sl19 sl20 sl21 sl22 sl23 sl24 sl25 sl26 sl27 sl28 sl29 sl30 sl31 tsN tsV sR : Array (Option Value)}
    {oc1 kV1 dc1 pm1 ct1 oc2 kV2 dc2 pm2 ct2 oc3 kV3 dc3 pm3 ct3 oc4 kV4 dc4 pm4 ct4 oc5 kV5 dc5 pm5 ct5 oc6 kV6 dc6 pm6 ct6 oc7 kV7 dc7 pm7 ct7 oc8 kV8 dc8 pm8 ct8 oc9 kV9 dc9 pm9 ct9 oc10 kV10 dc10 pm10 ct10 oc11 kV11 dc11 pm11 ct11 oc12 kV12 dc12 pm12 ct12 oc13 kV13 dc13 pm13 ct13 oc14 kV14 dc14 pm14 ct14 oc15 kV15 dc15 pm15 ct15 oc16 kV16 dc16 pm16 ct16 oc17 kV17 dc17 pm17 ct17 oc18 kV18 dc18 pm18 ct18 oc19 kV19 dc19 pm19 ct19 oc20 kV20 dc20 pm20 ct20 oc21 kV21 dc21 pm21 ct21 oc22 kV22 dc22 pm22 ct22 oc23 kV23 dc23 pm23 ct23 oc24 kV24 dc24 pm24 ct24 oc25 kV25 dc25 pm25 ct25 oc26 kV26 dc26 pm26 ct26 oc27 kV27 dc27 pm27 ct27 oc28 kV28 dc28 pm28 ct28 oc29 kV29 dc29 pm29 ct29 oc30 kV30 dc30 pm30 ct30 oc31 kV31 dc31 pm31 ct31 cd3 cd4 cd5 cd6 cd7 cd8 cd9 cd10 cd11 cd12 cd13 cd14 cd15 cd16 cd17 cd18 cd19 cd20 cd21 cd22 cd23 cd24 cd25 cd26 cd27 cd28 cd29 cd30 cd31 teN teV : Value} {tuN tuV iR : Array Value} {t_NAME_MOST t_NUMBER_MOST t_STRING_MOST t_TEXT_MOST t_ENTRIES_MOST t_CHANGES_MOST t_ARGUMENTS_MOST t_HOLDERS_MOST t_COUNT_MOST t_CHARACTERS t_LETTERS t_DIGITS t_SIGNS  : PySem.Tok} {nR : Nat}
    (a1 : PySem.W.nsIn K mainGlobals "is_name" = some (some (.ref f1)))
    (l1 : K.lookup f1 = some ⟨oc1, od1, .func (PySem.W.fnOf "is_name" "is_name" (defArgs sIsName) (defBody sIsName) (defScope sIsName) .none kV1 dc1 pm1 an1 (.ref tcN) ct1), sl1⟩)
    (c1 : PySem.W.codeIn K (.ref tcN) "is_name" = true)
    (k1 : PySem.W.keepIn K (.ref f1) = true)
    (a2 : PySem.W.nsIn K mainGlobals "is_value" = some (some (.ref f2)))
    (l2 : K.lookup f2 = some ⟨oc2, od2, .func (PySem.W.fnOf "is_value" "is_value" (defArgs sIsValue) (defBody sIsValue) (defScope sIsValue) .none kV2 dc2 pm2 an2 (.ref tcV) ct2), sl2⟩)
    (c2 : PySem.W.codeIn K (.ref tcV) "is_value" = true)
    (k2 : PySem.W.keepIn K (.ref f2) = true)
    (a3 : PySem.W.nsIn K mainGlobals "split" = some (some (.ref f3)))
    (l3 : K.lookup f3 = some ⟨oc3, od3, .func (PySem.W.fnOf "split" "split" (defArgs sSplit) (defBody sSplit) (defScope sSplit) .none kV3 dc3 pm3 an3 cd3 ct3), sl3⟩)
    (c3 : PySem.W.codeIn K cd3 "split" = true)
    (k3 : PySem.W.keepIn K (.ref f3) = true)
    (a4 : PySem.W.nsIn K mainGlobals "token_at" = some (some (.ref f4)))
    (l4 : K.lookup f4 = some ⟨oc4, od4, .func (PySem.W.fnOf "token_at" "token_at" (defArgs sTokenAt) (defBody sTokenAt) (defScope sTokenAt) .none kV4 dc4 pm4 an4 cd4 ct4), sl4⟩)
    (c4 : PySem.W.codeIn K cd4 "token_at" = true)
    (k4 : PySem.W.keepIn K (.ref f4) = true)
    (a5 : PySem.W.nsIn K mainGlobals "word_at" = some (some (.ref f5)))
    (l5 : K.lookup f5 = some ⟨oc5, od5, .func (PySem.W.fnOf "word_at" "word_at" (defArgs sWordAt) (defBody sWordAt) (defScope sWordAt) .none kV5 dc5 pm5 an5 cd5 ct5), sl5⟩)
    (c5 : PySem.W.codeIn K cd5 "word_at" = true)
    (k5 : PySem.W.keepIn K (.ref f5) = true)
    (a6 : PySem.W.nsIn K mainGlobals "number_at" = some (some (.ref f6)))
    (l6 : K.lookup f6 = some ⟨oc6, od6, .func (PySem.W.fnOf "number_at" "number_at" (defArgs sNumberAt) (defBody sNumberAt) (defScope sNumberAt) .none kV6 dc6 pm6 an6 cd6 ct6), sl6⟩)
    (c6 : PySem.W.codeIn K cd6 "number_at" = true)
    (k6 : PySem.W.keepIn K (.ref f6) = true)
    (a7 : PySem.W.nsIn K mainGlobals "string_at" = some (some (.ref f7)))
    (l7 : K.lookup f7 = some ⟨oc7, od7, .func (PySem.W.fnOf "string_at" "string_at" (defArgs sStringAt) (defBody sStringAt) (defScope sStringAt) .none kV7 dc7 pm7 an7 cd7 ct7), sl7⟩)
    (c7 : PySem.W.codeIn K cd7 "string_at" = true)
    (k7 : PySem.W.keepIn K (.ref f7) = true)
    (a8 : PySem.W.nsIn K mainGlobals "end_of_run" = some (some (.ref f8)))
    (l8 : K.lookup f8 = some ⟨oc8, od8, .func (PySem.W.fnOf "end_of_run" "end_of_run" (defArgs sEndOfRun) (defBody sEndOfRun) (defScope sEndOfRun) .none kV8 dc8 pm8 an8 cd8 ct8), sl8⟩)
    (c8 : PySem.W.codeIn K cd8 "end_of_run" = true)
    (k8 : PySem.W.keepIn K (.ref f8) = true)
    (a9 : PySem.W.nsIn K mainGlobals "has_twice" = some (some (.ref f9)))
    (l9 : K.lookup f9 = some ⟨oc9, od9, .func (PySem.W.fnOf "has_twice" "has_twice" (defArgs sTwice) (defBody sTwice) (defScope sTwice) .none kV9 dc9 pm9 an9 cd9 ct9), sl9⟩)
    (c9 : PySem.W.codeIn K cd9 "has_twice" = true)
    (k9 : PySem.W.keepIn K (.ref f9) = true)
    (a10 : PySem.W.nsIn K mainGlobals "are_names" = some (some (.ref f10)))
    (l10 : K.lookup f10 = some ⟨oc10, od10, .func (PySem.W.fnOf "are_names" "are_names" (defArgs sAreN) (defBody sAreN) (defScope sAreN) .none kV10 dc10 pm10 an10 cd10 ct10), sl10⟩)
    (c10 : PySem.W.codeIn K cd10 "are_names" = true)
    (k10 : PySem.W.keepIn K (.ref f10) = true)
    (a11 : PySem.W.nsIn K mainGlobals "are_entries" = some (some (.ref f11)))
    (l11 : K.lookup f11 = some ⟨oc11, od11, .func (PySem.W.fnOf "are_entries" "are_entries" (defArgs sAreE) (defBody sAreE) (defScope sAreE) .none kV11 dc11 pm11 an11 cd11 ct11), sl11⟩)
    (c11 : PySem.W.codeIn K cd11 "are_entries" = true)
    (k11 : PySem.W.keepIn K (.ref f11) = true)
    (a12 : PySem.W.nsIn K mainGlobals "are_arguments" = some (some (.ref f12)))
    (l12 : K.lookup f12 = some ⟨oc12, od12, .func (PySem.W.fnOf "are_arguments" "are_arguments" (defArgs sAreA) (defBody sAreA) (defScope sAreA) .none kV12 dc12 pm12 an12 cd12 ct12), sl12⟩)
    (c12 : PySem.W.codeIn K cd12 "are_arguments" = true)
    (k12 : PySem.W.keepIn K (.ref f12) = true)
    (a13 : PySem.W.nsIn K mainGlobals "write_record" = some (some (.ref f13)))
    (l13 : K.lookup f13 = some ⟨oc13, od13, .func (PySem.W.fnOf "write_record" "write_record" (defArgs sWRec) (defBody sWRec) (defScope sWRec) .none kV13 dc13 pm13 an13 cd13 ct13), sl13⟩)
    (c13 : PySem.W.codeIn K cd13 "write_record" = true)
    (k13 : PySem.W.keepIn K (.ref f13) = true)
    (a14 : PySem.W.nsIn K mainGlobals "write_value" = some (some (.ref f14)))
    (l14 : K.lookup f14 = some ⟨oc14, od14, .func (PySem.W.fnOf "write_value" "write_value" (defArgs sWVal) (defBody sWVal) (defScope sWVal) .none kV14 dc14 pm14 an14 cd14 ct14), sl14⟩)
    (c14 : PySem.W.codeIn K cd14 "write_value" = true)
    (k14 : PySem.W.keepIn K (.ref f14) = true)
    (a15 : PySem.W.nsIn K mainGlobals "read_record" = some (some (.ref f15)))
    (l15 : K.lookup f15 = some ⟨oc15, od15, .func (PySem.W.fnOf "read_record" "read_record" (defArgs sRead) (defBody sRead) (defScope sRead) .none kV15 dc15 pm15 an15 cd15 ct15), sl15⟩)
    (c15 : PySem.W.codeIn K cd15 "read_record" = true)
    (k15 : PySem.W.keepIn K (.ref f15) = true)
    (a16 : PySem.W.nsIn K mainGlobals "record_of" = some (some (.ref f16)))
    (l16 : K.lookup f16 = some ⟨oc16, od16, .func (PySem.W.fnOf "record_of" "record_of" (defArgs sRecOf) (defBody sRecOf) (defScope sRecOf) .none kV16 dc16 pm16 an16 cd16 ct16), sl16⟩)
    (c16 : PySem.W.codeIn K cd16 "record_of" = true)
    (k16 : PySem.W.keepIn K (.ref f16) = true)
    (a17 : PySem.W.nsIn K mainGlobals "text_of" = some (some (.ref f17)))
    (l17 : K.lookup f17 = some ⟨oc17, od17, .func (PySem.W.fnOf "text_of" "text_of" (defArgs sTextOf) (defBody sTextOf) (defScope sTextOf) .none kV17 dc17 pm17 an17 cd17 ct17), sl17⟩)
    (c17 : PySem.W.codeIn K cd17 "text_of" = true)
    (k17 : PySem.W.keepIn K (.ref f17) = true)
    (a18 : PySem.W.nsIn K mainGlobals "call_of" = some (some (.ref f18)))
    (l18 : K.lookup f18 = some ⟨oc18, od18, .func (PySem.W.fnOf "call_of" "call_of" (defArgs sCallOf) (defBody sCallOf) (defScope sCallOf) .none kV18 dc18 pm18 an18 cd18 ct18), sl18⟩)
    (c18 : PySem.W.codeIn K cd18 "call_of" = true)
    (k18 : PySem.W.keepIn K (.ref f18) = true)
    (a19 : PySem.W.nsIn K mainGlobals "number_of" = some (some (.ref f19)))
    (l19 : K.lookup f19 = some ⟨oc19, od19, .func (PySem.W.fnOf "number_of" "number_of" (defArgs sNumOf) (defBody sNumOf) (defScope sNumOf) .none kV19 dc19 pm19 an19 cd19 ct19), sl19⟩)
    (c19 : PySem.W.codeIn K cd19 "number_of" = true)
    (k19 : PySem.W.keepIn K (.ref f19) = true)
    (a20 : PySem.W.nsIn K mainGlobals "values_of" = some (some (.ref f20)))
    (l20 : K.lookup f20 = some ⟨oc20, od20, .func (PySem.W.fnOf "values_of" "values_of" (defArgs sValsOf) (defBody sValsOf) (defScope sValsOf) .none kV20 dc20 pm20 an20 cd20 ct20), sl20⟩)
    (c20 : PySem.W.codeIn K cd20 "values_of" = true)
    (k20 : PySem.W.keepIn K (.ref f20) = true)
    (a21 : PySem.W.nsIn K mainGlobals "_law_cell" = some (some (.ref f21)))
    (l21 : K.lookup f21 = some ⟨oc21, od21, .func (PySem.W.fnOf "_law_cell" "_law_cell" (defArgs sCell) (defBody sCell) (defScope sCell) .none kV21 dc21 pm21 an21 cd21 ct21), sl21⟩)
    (c21 : PySem.W.codeIn K cd21 "_law_cell" = true)
    (k21 : PySem.W.keepIn K (.ref f21) = true)
    (a22 : PySem.W.nsIn K mainGlobals "_law_digits" = some (some (.ref f22)))
    (l22 : K.lookup f22 = some ⟨oc22, od22, .func (PySem.W.fnOf "_law_digits" "_law_digits" (defArgs sDigits) (defBody sDigits) (defScope sDigits) .none kV22 dc22 pm22 an22 cd22 ct22), sl22⟩)
    (c22 : PySem.W.codeIn K cd22 "_law_digits" = true)
    (k22 : PySem.W.keepIn K (.ref f22) = true)
    (a23 : PySem.W.nsIn K mainGlobals "_law_draw" = some (some (.ref f23)))
    (l23 : K.lookup f23 = some ⟨oc23, od23, .func (PySem.W.fnOf "_law_draw" "_law_draw" (defArgs sDraw) (defBody sDraw) (defScope sDraw) .none kV23 dc23 pm23 an23 cd23 ct23), sl23⟩)
    (c23 : PySem.W.codeIn K cd23 "_law_draw" = true)
    (k23 : PySem.W.keepIn K (.ref f23) = true)
    (a24 : PySem.W.nsIn K mainGlobals "_law_alike" = some (some (.ref f24)))
    (l24 : K.lookup f24 = some ⟨oc24, od24, .func (PySem.W.fnOf "_law_alike" "_law_alike" (defArgs sAlike) (defBody sAlike) (defScope sAlike) .none kV24 dc24 pm24 an24 cd24 ct24), sl24⟩)
    (c24 : PySem.W.codeIn K cd24 "_law_alike" = true)
    (k24 : PySem.W.keepIn K (.ref f24) = true)
    (a25 : PySem.W.nsIn K mainGlobals "_law_value_text" = some (some (.ref f25)))
    (l25 : K.lookup f25 = some ⟨oc25, od25, .func (PySem.W.fnOf "_law_value_text" "_law_value_text" (defArgs sLVT) (defBody sLVT) (defScope sLVT) .none kV25 dc25 pm25 an25 cd25 ct25), sl25⟩)
    (c25 : PySem.W.codeIn K cd25 "_law_value_text" = true)
    (k25 : PySem.W.keepIn K (.ref f25) = true)
    (a26 : PySem.W.nsIn K mainGlobals "_law_record_text" = some (some (.ref f26)))
    (l26 : K.lookup f26 = some ⟨oc26, od26, .func (PySem.W.fnOf "_law_record_text" "_law_record_text" (defArgs sLRT) (defBody sLRT) (defScope sLRT) .none kV26 dc26 pm26 an26 cd26 ct26), sl26⟩)
    (c26 : PySem.W.codeIn K cd26 "_law_record_text" = true)
    (k26 : PySem.W.keepIn K (.ref f26) = true)
    (a27 : PySem.W.nsIn K mainGlobals "_law_signs" = some (some (.ref f27)))
    (l27 : K.lookup f27 = some ⟨oc27, od27, .func (PySem.W.fnOf "_law_signs" "_law_signs" (defArgs sSigns) (defBody sSigns) (defScope sSigns) .none kV27 dc27 pm27 an27 cd27 ct27), sl27⟩)
    (c27 : PySem.W.codeIn K cd27 "_law_signs" = true)
    (k27 : PySem.W.keepIn K (.ref f27) = true)
    (a28 : PySem.W.nsIn K mainGlobals "_law_some_value" = some (some (.ref f28)))
    (l28 : K.lookup f28 = some ⟨oc28, od28, .func (PySem.W.fnOf "_law_some_value" "_law_some_value" (defArgs sSomeV) (defBody sSomeV) (defScope sSomeV) .none kV28 dc28 pm28 an28 cd28 ct28), sl28⟩)
    (c28 : PySem.W.codeIn K cd28 "_law_some_value" = true)
    (k28 : PySem.W.keepIn K (.ref f28) = true)
    (a29 : PySem.W.nsIn K mainGlobals "_law_record" = some (some (.ref f29)))
    (l29 : K.lookup f29 = some ⟨oc29, od29, .func (PySem.W.fnOf "_law_record" "_law_record" (defArgs sRecord) (defBody sRecord) (defScope sRecord) .none kV29 dc29 pm29 an29 cd29 ct29), sl29⟩)
    (c29 : PySem.W.codeIn K cd29 "_law_record" = true)
    (k29 : PySem.W.keepIn K (.ref f29) = true)
    (a30 : PySem.W.nsIn K mainGlobals "_law_spoilt" = some (some (.ref f30)))
    (l30 : K.lookup f30 = some ⟨oc30, od30, .func (PySem.W.fnOf "_law_spoilt" "_law_spoilt" (defArgs sSpoilt) (defBody sSpoilt) (defScope sSpoilt) .none kV30 dc30 pm30 an30 cd30 ct30), sl30⟩)
    (c30 : PySem.W.codeIn K cd30 "_law_spoilt" = true)
    (k30 : PySem.W.keepIn K (.ref f30) = true)
    (a31 : PySem.W.nsIn K mainGlobals "law" = some (some (.ref f31)))
    (l31 : K.lookup f31 = some ⟨oc31, od31, .func (PySem.W.fnOf "law" "law" (defArgs sLaw) (defBody sLaw) (defScope sLaw) .none kV31 dc31 pm31 an31 cd31 ct31), sl31⟩)
    (c31 : PySem.W.codeIn K cd31 "law" = true)
    (k31 : PySem.W.keepIn K (.ref f31) = true)
    (z_len : PySem.W.nsIn K mainGlobals "len" = some none)
    (z_range : PySem.W.nsIn K mainGlobals "range" = some none)
    (z_bint : PySem.W.nsIn K mainGlobals "int" = some none)
    (z_bstr : PySem.W.nsIn K mainGlobals "str" = some none)
    (z_bbool : PySem.W.nsIn K mainGlobals "bool" = some none)
    (z_blist : PySem.W.nsIn K mainGlobals "list" = some none)
    (z_repr : PySem.W.nsIn K mainGlobals "repr" = some none)
    (z_isinstance : PySem.W.nsIn K mainGlobals "isinstance" = some none)
    (z_ord : PySem.W.nsIn K mainGlobals "ord" = some none)
    (z_all : PySem.W.nsIn K mainGlobals "all" = some none)
    (z_btuple : PySem.W.nsIn K mainGlobals "tuple" = some none)
    (z_bset : PySem.W.nsIn K mainGlobals "set" = some none)
    (y_NAME_MOST : PySem.W.nsIn K mainGlobals "NAME_MOST" = some (some (.int 6 t_NAME_MOST)))
    (y_NUMBER_MOST : PySem.W.nsIn K mainGlobals "NUMBER_MOST" = some (some (.int 99999 t_NUMBER_MOST)))
    (y_STRING_MOST : PySem.W.nsIn K mainGlobals "STRING_MOST" = some (some (.int 20 t_STRING_MOST)))
    (y_TEXT_MOST : PySem.W.nsIn K mainGlobals "TEXT_MOST" = some (some (.int 600 t_TEXT_MOST)))
    (y_ENTRIES_MOST : PySem.W.nsIn K mainGlobals "ENTRIES_MOST" = some (some (.int 3 t_ENTRIES_MOST)))
    (y_CHANGES_MOST : PySem.W.nsIn K mainGlobals "CHANGES_MOST" = some (some (.int 8 t_CHANGES_MOST)))
    (y_ARGUMENTS_MOST : PySem.W.nsIn K mainGlobals "ARGUMENTS_MOST" = some (some (.int 3 t_ARGUMENTS_MOST)))
    (y_HOLDERS_MOST : PySem.W.nsIn K mainGlobals "HOLDERS_MOST" = some (some (.int 3 t_HOLDERS_MOST)))
    (y_COUNT_MOST : PySem.W.nsIn K mainGlobals "COUNT_MOST" = some (some (.int 9999 t_COUNT_MOST)))
    (y_CHARACTERS : PySem.W.nsIn K mainGlobals "CHARACTERS" = some (some (.str " !\"#$&'()*+,-./0123456789:;<=>?@ABCDEFGHIJKLMNOPQRSTUVWXYZ[\\]^_`abcdefghijklmnopqrstuvwxyz{|}~" t_CHARACTERS)))
    (y_LETTERS : PySem.W.nsIn K mainGlobals "LETTERS" = some (some (.str "abcdefghijklmnopqrstuvwxyz" t_LETTERS)))
    (y_DIGITS : PySem.W.nsIn K mainGlobals "DIGITS" = some (some (.str "0123456789" t_DIGITS)))
    (y_SIGNS : PySem.W.nsIn K mainGlobals "SIGNS" = some (some (.str "(),;+-*<=" t_SIGNS)))
    (uRA : PySem.W.nsIn K mainGlobals "RESERVED" = some (some (.ref ra)))
    (uRL : K.lookup ra = some ⟨.type "tuple", dR, .seq iR nR, sR⟩)
    (uRZ : iR.size ≤ sizeLine)
    (uRV : iR.toList.map strOf = kw13.map some)
    (tlN : K.lookup tcN = some ⟨teN, tdN, .fields tuN, tsN⟩)
    (tkN : tuN[11]? = some (.ref tpN))
    (toN : K.lookup tpN = none)
    (tqN : ((recsOf q).any fun r => r.name == ("is_name" : Str)) = true)
    (tlV : K.lookup tcV = some ⟨teV, tdV, .fields tuV, tsV⟩)
    (tkV : tuV[11]? = some (.ref tpV))
    (toV : K.lookup tpV = none)
    (tqV : ((recsOf q).any fun r => r.name == ("is_value" : Str)) = true)
    (nNV : tpN ≠ tpV) :
    LawG l w K CX0 10 63 "script" mg fa h := by
  have g : ∀ {x : Str} {v : Value}, PySem.W.nsIn K mainGlobals x = some (some v) → mg x = some v := fun e => PySem.W.mg_of X G e
  have gz : ∀ {x : Str}, PySem.W.nsIn K mainGlobals x = some none → mg x = none := fun e => PySem.W.mg_none_of X G e
  have e := hfa.symm.trans (g a31)
  cases e
  have F1 := fun_mk (st := sIsName) l1 c1 k1
  have b1 := F1.binds (ps := ["text"]) fun _ _ _ _ _ _ us hl => match us, hl with | [_], _ => rfl
  have F2 := fun_mk (st := sIsValue) l2 c2 k2
  have b2 := F2.binds (ps := ["value"]) fun _ _ _ _ _ _ us hl => match us, hl with | [_], _ => rfl
  have F3 := fun_mk (st := sSplit) l3 c3 k3
  have b3 := F3.binds (ps := ["line"]) fun _ _ _ _ _ _ us hl => match us, hl with | [_], _ => rfl
  have F4 := fun_mk (st := sTokenAt) l4 c4 k4
  have b4 := F4.binds (ps := ["line", "at"]) fun _ _ _ _ _ _ us hl => match us, hl with | [_, _], _ => rfl
  have F5 := fun_mk (st := sWordAt) l5 c5 k5
  have b5 := F5.binds (ps := ["line", "at"]) fun _ _ _ _ _ _ us hl => match us, hl with | [_, _], _ => rfl
  have F6 := fun_mk (st := sNumberAt) l6 c6 k6
  have b6 := F6.binds (ps := ["line", "at"]) fun _ _ _ _ _ _ us hl => match us, hl with | [_, _], _ => rfl
  have F7 := fun_mk (st := sStringAt) l7 c7 k7
  have b7 := F7.binds (ps := ["line", "at"]) fun _ _ _ _ _ _ us hl => match us, hl with | [_, _], _ => rfl
  have F8 := fun_mk (st := sEndOfRun) l8 c8 k8
  have b8 := F8.binds (ps := ["line", "at", "characters"]) fun _ _ _ _ _ _ us hl => match us, hl with | [_, _, _], _ => rfl
  have F9 := fun_mk (st := sTwice) l9 c9 k9
  have b9 := F9.binds (ps := ["names"]) fun _ _ _ _ _ _ us hl => match us, hl with | [_], _ => rfl
  have F10 := fun_mk (st := sAreN) l10 c10 k10
  have b10 := F10.binds (ps := ["texts", "most"]) fun _ _ _ _ _ _ us hl => match us, hl with | [_, _], _ => rfl
  have F11 := fun_mk (st := sAreE) l11 c11 k11
  have b11 := F11.binds (ps := ["names"]) fun _ _ _ _ _ _ us hl => match us, hl with | [_], _ => rfl
  have F12 := fun_mk (st := sAreA) l12 c12 k12
  have b12 := F12.binds (ps := ["values"]) fun _ _ _ _ _ _ us hl => match us, hl with | [_], _ => rfl
  have F13 := fun_mk (st := sWRec) l13 c13 k13
  have b13 := F13.binds (ps := ["record"]) fun _ _ _ _ _ _ us hl => match us, hl with | [_], _ => rfl
  have F14 := fun_mk (st := sWVal) l14 c14 k14
  have b14 := F14.binds (ps := ["value"]) fun _ _ _ _ _ _ us hl => match us, hl with | [_], _ => rfl
  have F15 := fun_mk (st := sRead) l15 c15 k15
  have b15 := F15.binds (ps := ["text"]) fun _ _ _ _ _ _ us hl => match us, hl with | [_], _ => rfl
  have F16 := fun_mk (st := sRecOf) l16 c16 k16
  have b16 := F16.binds (ps := ["word", "rest"]) fun _ _ _ _ _ _ us hl => match us, hl with | [_, _], _ => rfl
  have F17 := fun_mk (st := sTextOf) l17 c17 k17
  have b17 := F17.binds (ps := ["rest"]) fun _ _ _ _ _ _ us hl => match us, hl with | [_], _ => rfl
  have F18 := fun_mk (st := sCallOf) l18 c18 k18
  have b18 := F18.binds (ps := ["rest"]) fun _ _ _ _ _ _ us hl => match us, hl with | [_], _ => rfl
  have F19 := fun_mk (st := sNumOf) l19 c19 k19
  have b19 := F19.binds (ps := ["text", "most"]) fun _ _ _ _ _ _ us hl => match us, hl with | [_, _], _ => rfl
  have F20 := fun_mk (st := sValsOf) l20 c20 k20
  have b20 := F20.binds (ps := ["text"]) fun _ _ _ _ _ _ us hl => match us, hl with | [_], _ => rfl
  have F21 := fun_mk (st := sCell) l21 c21 k21
  have b21 := F21.binds (ps := ["script", "k"]) fun _ _ _ _ _ _ us hl => match us, hl with | [_, _], _ => rfl
  have F22 := fun_mk (st := sDigits) l22 c22 k22
  have b22 := F22.binds (ps := ["script", "first", "last"]) fun _ _ _ _ _ _ us hl => match us, hl with | [_, _, _], _ => rfl
  have F23 := fun_mk (st := sDraw) l23 c23 k23
  have b23 := F23.binds (ps := ["box", "many"]) fun _ _ _ _ _ _ us hl => match us, hl with | [_, _], _ => rfl
  have F24 := fun_mk (st := sAlike) l24 c24 k24
  have b24 := F24.binds (ps := ["one", "two"]) fun _ _ _ _ _ _ us hl => match us, hl with | [_, _], _ => rfl
  have F25 := fun_mk (st := sLVT) l25 c25 k25
  have b25 := F25.binds (ps := ["value"]) fun _ _ _ _ _ _ us hl => match us, hl with | [_], _ => rfl
  have F26 := fun_mk (st := sLRT) l26 c26 k26
  have b26 := F26.binds (ps := ["record"]) fun _ _ _ _ _ _ us hl => match us, hl with | [_], _ => rfl
  have F27 := fun_mk (st := sSigns) l27 c27 k27
  have b27 := F27.binds (ps := ["box", "many"]) fun _ _ _ _ _ _ us hl => match us, hl with | [_, _], _ => rfl
  have F28 := fun_mk (st := sSomeV) l28 c28 k28
  have b28 := F28.binds (ps := ["box"]) fun _ _ _ _ _ _ us hl => match us, hl with | [_], _ => rfl
  have F29 := fun_mk (st := sRecord) l29 c29 k29
  have b29 := F29.binds (ps := ["box"]) fun _ _ _ _ _ _ us hl => match us, hl with | [_], _ => rfl
  have F30 := fun_mk (st := sSpoilt) l30 c30 k30
  have b30 := F30.binds (ps := ["box", "text"]) fun _ _ _ _ _ _ us hl => match us, hl with | [_, _], _ => rfl
  have F31 := fun_mk (st := sLaw) l31 c31 k31
  have hN := TB "is_name" f1 tcN tpN _ _ teN tdN tuN tsN tqN (g a1) l1 rfl rfl tlN tkN
  have hV := TB "is_value" f2 tcV tpV _ _ teV tdV tuV tsV tqV (g a2) l2 rfl rfl tlV tkV
  refine ⟨PySem.W.fnOf "law" "law" (defArgs sLaw) (defBody sLaw) (defScope sLaw) .none kV31 dc31 pm31 an31 cd31 ct31, [(tcN, tpN), (tcV, tpV)], spLaw K tpN tpV, fun p hp => ?_, fun p hp => ?_, fun p hp => ?_, fun s u => .of_eq rfl, fun H a ns hl _ hT hS => ?_, fun base _ _ hTB => ?_⟩
  · rcases List.mem_cons.mp hp with rfl | hp
    · exact hN.1
    rw [List.mem_singleton.mp hp]
    exact hV.1
  · rcases List.mem_cons.mp hp with rfl | hp
    · exact toN
    rw [List.mem_singleton.mp hp]
    exact toV
  · rcases List.mem_cons.mp hp with rfl | hp
    · exact hN.2
    rw [List.mem_singleton.mp hp]
    exact hV.2
  · refine ⟨a, ns, rfl, hS, ⟨⟨#[], hT (tcN, tpN) List.mem_cons_self, trivial⟩, ⟨#[], hT (tcV, tpV) (List.mem_cons_of_mem _ List.mem_cons_self), trivial⟩⟩, fun _ => rfl⟩
  ·
    have tbN := hTB (tcN, tpN) List.mem_cons_self
    have tbV := hTB (tcV, tpV) (List.mem_cons_of_mem _ List.mem_cons_self)
    have T : Txt K mg := ⟨gz z_len, gz z_range, gz z_bint, gz z_bstr, gz z_bbool, gz z_blist, gz z_repr, gz z_isinstance, gz z_ord, gz z_all, ⟨_, g y_NAME_MOST⟩, ⟨_, g y_NUMBER_MOST⟩, ⟨_, g y_STRING_MOST⟩, ⟨_, g y_CHARACTERS⟩, ⟨_, g y_LETTERS⟩, ⟨_, g y_DIGITS⟩, ⟨_, g y_SIGNS⟩, ⟨ra, g uRA, fun H => .inr ⟨_, iR, nR, uRL, rfl, rfl, uRZ, vals_strs _ _ uRV⟩⟩⟩
    have TT : K6.TB mg := ⟨gz z_btuple, gz z_bset⟩
    have oCell := ok_cell (P := l.prog) (w := w) (base := base) F21 T
    have oDraw := ok_draw (P := l.prog) (w := w) (base := base) F23 T
    have oDig := ok_digits F22 T oCell (g a21) k21 b21
    have oVal := ok_value (P := l.prog) (w := w) (base := base) l2 c2 rfl tbV T
    have oNam := ok_name (P := l.prog) (w := w) (base := base) l1 c1 rfl tbN T
    have oEnd := ok_end (P := l.prog) (w := w) (base := base) F8 T
    have oStr := ok_str F7 T oVal (g a2) k2 b2
    have oWord := ok_word (PT := tpV) F5 T oEnd (g a8) k8 b8
    have oNum := ok_num (PT := tpV) F6 T oEnd (g a8) k8 b8
    have oTok := ok_tokat F4 T (oWord.mono (by decide)) (g a5) k5 b5 (oNum.mono (by decide)) (g a6) k6 b6 oStr (g a7) k7 b7
    have oSpl := ok_split F3 T oTok (g a4) k4 b4
    have oTwice := ok_twice (P := l.prog) (w := w) (base := base) F9 T (gz z_bset)
    have oAreN := ok_areN F10 T T ⟨g a9, k9, b9, oTwice⟩ ⟨g a1, k1, b1, oNam⟩
    have oAreE := ok_areE F11 T T ⟨_, g y_ENTRIES_MOST⟩ ⟨g a10, k10, b10, oAreN⟩
    have oAreA := ok_areAL F12 T T ⟨_, g y_ARGUMENTS_MOST⟩ nNV ⟨g a2, k2, b2, oVal⟩
    have oWV := ok_wval (P := l.prog) (w := w) (base := base) F14 T
    have oWR := ok_wRec F13 T ⟨g a14, k14, b14, oWV⟩
    have oNO := ok_numOf (P := l.prog) (w := w) (base := base) F19 T
    have oVO := ok_valsOf F20 T TT nNV ⟨g a3, k3, b3, oSpl⟩ ⟨g a12, k12, b12, oAreA⟩
    have oTO := ok_textOf F17 T T ⟨_, g y_TEXT_MOST⟩ ⟨g a1, k1, b1, oNam⟩
    have oCO := ok_callOf F18 T nNV ⟨_, g y_HOLDERS_MOST⟩ ⟨_, g y_COUNT_MOST⟩ ⟨g a1, k1, b1, oNam⟩ ⟨g a19, k19, b19, oNO⟩ ⟨g a20, k20, b20, oVO⟩
    have oRO := ok_recOf F16 T TT nNV ⟨_, g y_CHANGES_MOST⟩ ⟨g a11, k11, b11, oAreE⟩ ⟨g a17, k17, b17, oTO⟩ ⟨g a1, k1, b1, oNam⟩ ⟨g a19, k19, b19, oNO⟩ ⟨g a18, k18, b18, oCO⟩
    have oRead := ok_read F15 T ⟨_, g y_CHARACTERS⟩ ⟨g a16, k16, b16, oRO⟩ ⟨g a13, k13, b13, oWR⟩
    have oLV := ok_lvt (P := l.prog) (w := w) (base := base) F25 T
    have oLR := ok_lrt F26 T ⟨g a25, k25, b25, oLV⟩
    have oSig := ok_signs F27 T ⟨g a23, k23, b23, oDraw⟩
    have oSV := ok_someV F28 T ⟨g a23, k23, b23, oDraw⟩
    have oRc := ok_record F29 T TT ⟨g a23, k23, b23, oDraw⟩ ⟨g a27, k27, b27, oSig⟩ ⟨g a28, k28, b28, oSV⟩
    have oSp := ok_spoilt F30 T ⟨g a23, k23, b23, oDraw⟩
    have oAl := ok_alike (P := l.prog) (w := w) (base := base) F24 T
    exact ok_law45 F31 T ⟨g a22, k22, b22, oDig⟩ ⟨g a29, k29, b29, oRc⟩ ⟨g a26, k26, b26, oLR⟩ ⟨g a13, k13, b13, oWR⟩ ⟨g a15, k15, b15, oRead⟩ ⟨g a30, k30, b30, oSp⟩ oAl (g a24) k24 b24
end K6

open PySem PySem.W PyProof.Rows
set_option maxRecDepth 100000 in
set_option maxHeartbeats 0 in
theorem PySem.Challenge.cw_sameasnew_k45_records_written_and_read_holds : PySem.Challenge.rw_sameasnew_k45_records_written_and_read.Holds := by
  w_on; o_law; k_head; (case hw => w_witness2)
  k_fill
  refine GD.walk_ofG (l := PySem.Challenge.rw_sameasnew_k45_records_written_and_read) (n := 63) (k := 10) (x := "script") (CX := fun _ => L2.CX0) rfl (by decide) rfl ⟨rfl, by decide, by decide⟩ (fun w h Y => PySem.W.kIn_of Y) ?F (fun _ _ _ _ _ h => h)
  case F =>
    intro w mg fa h Y KX G hmg TB
    refine' K6.end_at KX G hmg TB ?a1 ?l1 ?c1 ?k1 ?a2 ?l2 ?c2 ?k2 ?a3 ?l3 ?c3 ?k3 ?a4 ?l4 ?c4 ?k4 ?a5 ?l5 ?c5 ?k5 ?a6 ?l6 ?c6 ?k6 ?a7 ?l7 ?c7 ?k7 ?a8 ?l8 ?c8 ?k8 ?a9 ?l9 ?c9 ?k9 ?a10 ?l10 ?c10 ?k10 ?a11 ?l11 ?c11 ?k11 ?a12 ?l12 ?c12 ?k12 ?a13 ?l13 ?c13 ?k13 ?a14 ?l14 ?c14 ?k14 ?a15 ?l15 ?c15 ?k15 ?a16 ?l16 ?c16 ?k16 ?a17 ?l17 ?c17 ?k17 ?a18 ?l18 ?c18 ?k18 ?a19 ?l19 ?c19 ?k19 ?a20 ?l20 ?c20 ?k20 ?a21 ?l21 ?c21 ?k21 ?a22 ?l22 ?c22 ?k22 ?a23 ?l23 ?c23 ?k23 ?a24 ?l24 ?c24 ?k24 ?a25 ?l25 ?c25 ?k25 ?a26 ?l26 ?c26 ?k26 ?a27 ?l27 ?c27 ?k27 ?a28 ?l28 ?c28 ?k28 ?a29 ?l29 ?c29 ?k29 ?a30 ?l30 ?c30 ?k30 ?a31 ?l31 ?c31 ?k31 ?z_len ?z_range ?z_bint ?z_bstr ?z_bbool ?z_blist ?z_repr ?z_isinstance ?z_ord ?z_all ?z_btuple ?z_bset ?y_NAME_MOST ?y_NUMBER_MOST ?y_STRING_MOST ?y_TEXT_MOST ?y_ENTRIES_MOST ?y_CHANGES_MOST ?y_ARGUMENTS_MOST ?y_HOLDERS_MOST ?y_COUNT_MOST ?y_CHARACTERS ?y_LETTERS ?y_DIGITS ?y_SIGNS ?uRA ?uRL ?uRZ ?uRV ?tlN ?tkN ?toN ?tqN ?tlV ?tkV ?toV ?tqV ?nNV
    (case a1 => k_is)
    (case l1 => k_is)
    (case c1 => k_is)
    (case k1 => k_is)
    (case a2 => k_is)
    (case l2 => k_is)
    (case c2 => k_is)
    (case k2 => k_is)
    (case a3 => k_is)
    (case l3 => k_is)
    (case c3 => k_is)
    (case k3 => k_is)
    (case a4 => k_is)
    (case l4 => k_is)
    (case c4 => k_is)
    (case k4 => k_is)
    (case a5 => k_is)
    (case l5 => k_is)
    (case c5 => k_is)
    (case k5 => k_is)
    (case a6 => k_is)
    (case l6 => k_is)
    (case c6 => k_is)
    (case k6 => k_is)
    (case a7 => k_is)
    (case l7 => k_is)
    (case c7 => k_is)
    (case k7 => k_is)
    (case a8 => k_is)
    (case l8 => k_is)
    (case c8 => k_is)
    (case k8 => k_is)
    (case a9 => k_is)
    (case l9 => k_is)
    (case c9 => k_is)
    (case k9 => k_is)
    (case a10 => k_is)
    (case l10 => k_is)
    (case c10 => k_is)
    (case k10 => k_is)
    (case a11 => k_is)
    (case l11 => k_is)
    (case c11 => k_is)
    (case k11 => k_is)
    (case a12 => k_is)
    (case l12 => k_is)
    (case c12 => k_is)
    (case k12 => k_is)
    (case a13 => k_is)
    (case l13 => k_is)
    (case c13 => k_is)
    (case k13 => k_is)
    (case a14 => k_is)
    (case l14 => k_is)
    (case c14 => k_is)
    (case k14 => k_is)
    (case a15 => k_is)
    (case l15 => k_is)
    (case c15 => k_is)
    (case k15 => k_is)
    (case a16 => k_is)
    (case l16 => k_is)
    (case c16 => k_is)
    (case k16 => k_is)
    (case a17 => k_is)
    (case l17 => k_is)
    (case c17 => k_is)
    (case k17 => k_is)
    (case a18 => k_is)
    (case l18 => k_is)
    (case c18 => k_is)
    (case k18 => k_is)
    (case a19 => k_is)
    (case l19 => k_is)
    (case c19 => k_is)
    (case k19 => k_is)
    (case a20 => k_is)
    (case l20 => k_is)
    (case c20 => k_is)
    (case k20 => k_is)
    (case a21 => k_is)
    (case l21 => k_is)
    (case c21 => k_is)
    (case k21 => k_is)
    (case a22 => k_is)
    (case l22 => k_is)
    (case c22 => k_is)
    (case k22 => k_is)
    (case a23 => k_is)
    (case l23 => k_is)
    (case c23 => k_is)
    (case k23 => k_is)
    (case a24 => k_is)
    (case l24 => k_is)
    (case c24 => k_is)
    (case k24 => k_is)
    (case a25 => k_is)
    (case l25 => k_is)
    (case c25 => k_is)
    (case k25 => k_is)
    (case a26 => k_is)
    (case l26 => k_is)
    (case c26 => k_is)
    (case k26 => k_is)
    (case a27 => k_is)
    (case l27 => k_is)
    (case c27 => k_is)
    (case k27 => k_is)
    (case a28 => k_is)
    (case l28 => k_is)
    (case c28 => k_is)
    (case k28 => k_is)
    (case a29 => k_is)
    (case l29 => k_is)
    (case c29 => k_is)
    (case k29 => k_is)
    (case a30 => k_is)
    (case l30 => k_is)
    (case c30 => k_is)
    (case k30 => k_is)
    (case a31 => k_is)
    (case l31 => k_is)
    (case c31 => k_is)
    (case k31 => k_is)
    (case z_len => k_is)
    (case z_range => k_is)
    (case z_bint => k_is)
    (case z_bstr => k_is)
    (case z_bbool => k_is)
    (case z_blist => k_is)
    (case z_repr => k_is)
    (case z_isinstance => k_is)
    (case z_ord => k_is)
    (case z_all => k_is)
    (case z_btuple => k_is)
    (case z_bset => k_is)
    (case y_NAME_MOST => k_is)
    (case y_NUMBER_MOST => k_is)
    (case y_STRING_MOST => k_is)
    (case y_TEXT_MOST => k_is)
    (case y_ENTRIES_MOST => k_is)
    (case y_CHANGES_MOST => k_is)
    (case y_ARGUMENTS_MOST => k_is)
    (case y_HOLDERS_MOST => k_is)
    (case y_COUNT_MOST => k_is)
    (case y_CHARACTERS => k_is)
    (case y_LETTERS => k_is)
    (case y_DIGITS => k_is)
    (case y_SIGNS => k_is)
    (case uRA => k_is)
    (case uRL => k_is)
    (case uRZ => decide)
    (case uRV => rfl)
    (case tlN => k_is)
    (case tkN => rfl)
    (case toN => first | rfl | kernel_rfl | decide +kernel)
    (case tqN => decide +kernel)
    (case tlV => k_is)
    (case tkV => rfl)
    (case toV => first | rfl | kernel_rfl | decide +kernel)
    (case tqV => decide +kernel)
    (case nNV => decide)
