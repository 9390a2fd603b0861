import PyProof.Rows.All
import Wide.All
import OpenK.AllK
import Wide.FinOn
import PyProof.LongRange
import PyProof.ReprRoads
import HandS.Base
import HandS.Call
import HandS.List
import HandS.Words
import HandS.WordsList
import HandS.Ends
import HandS.WordsDict
import HandS.Wide
import HandS.Comp
import HandS.Dict
import HandS.Style
import HandS.Text
import HandS.Walk
import HandS.DictComp
import HandS.IsInst
import HandS.Steps
import KE.KMathG
import HandS.Conv
import HandS.OwnEq
import HandS.NoneIn
import HandS.SortInts
import HandS.Lambda
import HandS.ExcInit
import HandS.ExcValue
import HandS.ExcField
import HandS.ExcIs
import KE.KExcIs
import KE.KExcInit
import HandS.TryMany
import HandS.ExcOwn
import HandS.EndTab
import HandS.WordsExc
import HandS.Iter
import KE.GoesMore
import KE.GoesEnum
import HandS.RaiseMore
import KE.GoesZip
import HandS.TupAny
import HandS.TryOnly
import PySem.Challenge.RW_roundticks_k14_great_numbers_and_slow_ri
set_option Elab.async false
set_option linter.all false
set_option maxRecDepth 100000
set_option maxHeartbeats 8000000
/-! own rules: far ranges, repr of data, promises under known guards -/
namespace Rt
open PySem PySem.Spec L2
open PyProof.Rows hiding St
/-! ### a range between any two ints -/
theorem turn_far {P : Program} {w : World} {K : PySem.W.Frag} {tg : Expr} (c : Addr) (lo : Int) (n : Nat) :
    Turn P w K tg (Itr lo n) [c] c (fun i h => IsLongIter h c (lo + ((i : Nat) : Int) * 1) ((n : Int) - ((i : Nat) : Int)) 1) := by
  constructor
  · exact List.mem_singleton.mpr rfl
  · intro i h st b hb
    cases List.mem_singleton.mp hb
    exact ⟨_, st, fun v z => by injection z⟩
  · intro i h h' st kp
    exact kp c (List.mem_singleton.mpr rfl) _ st
  · rintro X rfl rfl rfl calm i pins s σ H E I fresh st more
    obtain ⟨g0, g1, g2, g3, g4, g5⟩ := fresh c (List.mem_singleton.mpr rfl)
    refine (Walks.longrange (prog := X.prog) (w := X.w) (I.ok.hd calm) c lo 1 n).item i s _ _ more st fun v h' tk hv st' kp => ?_
    obtain ⟨t, rfl⟩ := hv
    have J : Inv X pins σ H { s with heap := h', toks := tk } :=
      I.turned (fun b o nb e => kp b o (fun z => nb (List.mem_singleton.mp z)) e) g0 g1 g3 g4 g5
    refine ⟨_, rfl, go_of (n := "longrange_iterator") (s := { s with heap := h', toks := tk }) st' rfl rfl (by decide) ?_⟩
    refine ⟨.int (lo + (i : Int)), H, J, ⟨t, by rw [Int.mul_one]⟩, ⟨rfl, rfl⟩, st', fun b hb => (fresh b hb).1⟩
  · rintro X rfl rfl rfl calm i pins s σ H E I fresh st over
    obtain ⟨g0, g1, g2, g3, g4, g5⟩ := fresh c (List.mem_singleton.mpr rfl)
    have le : (n : Int) - (i : Int) ≤ 0 := by have q : n ≤ i := over; omega
    exact wpAny_pyNext_long_end (I.ok.hd calm) st le fun h' kp =>
      ⟨rfl, I.turned (t' := s.toks) (fun b o nb e => kp b o nb e) g0 g1 g3 g4 g5⟩
  · intro A i s Q E st q
    exact wpAny_pyIter_longiter st q
section
variable {X : Cx} {tg : Expr}
theorem far_it {pins : List (Addr × Obj)} {σ : St} {H : Hp} {s : Shared} {R : It → Hp → Prop} {E : Value → Shared → Prop} {lo hi : Int} {t u v : Tok} {tk : Nat}
    (I : Inv X pins σ H s) (q : R (Itr lo (hi - lo).toNat) H) :
    wpAny (model X.prog X.w) X.A (pyIter (.ref s.heap.objs.size)) (PIE X pins σ tg R) E
      { s with heap := s.heap.push { cls := .type "range", data := .fields #[.int lo t, .int hi u, .int 1 v] }, toks := tk } := by
  have J : Inv X pins σ H { s with heap := s.heap.push { cls := .type "range", data := .fields #[.int lo t, .int hi u, .int 1 v] }, toks := tk } :=
    I.kept fun b o e => Heap.get?_push_of_some _ e
  have ez : lo + (((0 : Nat)) : Int) * 1 = lo := by simp
  have en : (((hi - lo).toNat : Nat) : Int) - ((0 : Nat) : Int) = Builtin.Range.rangeSize lo hi 1 := by
    rw [rangeSize_one]
    split <;> omega
  have fr : ∀ (h2 : Heap) (tk2 : Nat) (b : Addr), Inv X pins σ H { s with heap := h2, toks := tk2 } → b = h2.objs.size → FpOk X pins H b := fun h2 tk2 b J2 e => by
    subst e
    exact J2.fpOk (Nat.le_refl _) (J2.hok.fresh (Nat.le_refl _))
  cases sm : Builtin.Range.small lo hi 1 with
  | true =>
    refine wpAny_pyIter_range (IsRange.new ..) sm ?_
    refine ⟨_, [_], _, Itr lo (hi - lo).toNat, H, rfl, J.kept (t' := tk) fun b o e => Heap.get?_push_of_some _ e, turn_range _ lo (hi - lo).toNat, ?_, fun b hb => fr _ tk b J (List.mem_singleton.mp hb), q⟩
    show IsRangeIter _ _ (lo + (((0 : Nat)) : Int) * 1) ((((hi - lo).toNat : Nat) : Int) - ((0 : Nat) : Int)) 1
    rw [ez, en]
    exact Heap.get?_push_size _ rfl
  | false =>
    refine wpAny_pyIter_longrange (IsRange.new ..) sm ?_
    refine ⟨_, [_], _, Itr lo (hi - lo).toNat, H, rfl, J.kept (t' := tk) fun b o e => Heap.get?_push_of_some _ e, turn_far _ lo (hi - lo).toNat, ?_, fun b hb => fr _ tk b J (List.mem_singleton.mp hb), q⟩
    show IsLongIter _ _ (lo + (((0 : Nat)) : Int) * 1) ((((hi - lo).toNat : Nat) : Int) - ((0 : Nat) : Int)) 1
    rw [ez, en]
    exact Heap.get?_push_size _ rfl
def iFar (ta : TA) : TI := fun σ H R => ta σ H fun vs H1 => ∃ i j : Int, vs = [.int i, .int j] ∧ R (Itr i (j - i).toNat) H1
/-- for x in range(a, b), of ints of any size -/
theorem pi_far {a b : Expr} {ta : TA} {p pos : Pos} (hg : Gl X "range") (hm : X.mg "range" = none) (ha : PA X [a, b] ta)
    (h1 : starEach [a, b] X.env = [(false, eval a X.env), (false, eval b X.env)] := by rfl) (h2 : starEach [b] X.env = [(false, eval b X.env)] := by rfl) :
    PI X tg (.Call (.Name "range" p) [a, b] [] pos) (iFar ta) := by
  constructor
  intro pins s σ H R I h
  have two := thn (ha.run pos pins s σ H _ I h) (Q' := fun us s1 => wpAny (model X.prog X.w) X.A (call (.type "range") us) (fun v s2 => wpAny (model X.prog X.w) X.A (pyIter v) (PIE X pins σ tg R) X.xe s2) X.xe s1)
    fun us s1 ⟨vs, H1, I1, r1, i, j, e, q⟩ => by
      subst e
      obtain ⟨u1, u2, rfl, ⟨t1, rfl⟩, ⟨t2, rfl⟩⟩ := vals2 r1
      exact call_range_2 (far_it I1 q)
  refine PyProof.Rows.Call_ (ld_blt I hg hm boot_range (PyProof.Rows.callWith_type1 two ?_ ?_))
  · rw [h1, h2]
  · rw [h2]; rfl
end
end Rt
namespace Rt
open PySem PySem.Spec L2
open PyProof.Rows hiding St
/-! ### promises of defs that are called where no guard stands -/
structure FnG (P : Program) (w : World) (K : PySem.W.Frag) (mg : Str → Option Value) (base : Heap) (k : Nat) (f : Addr) (fd : FuncData) (ps : List Str) (sp : Sp) : Prop where
  many : ∀ vs H Q E, sp vs H Q E → vs.length = ps.length
  go : ∀ (A : Around), A.guards = some [] → Room k A → ∀ (outer : List Env) (s : Shared) (H : Hp) (args : Args) (us : List Value) (vs : List V) (Q : VK) (E : XK), Env0 P w K mg base A outer s H →
    BindsTo s fd args (ps.zip us) → Vals vs us → sp vs H Q E → codeAny (model P w) A (.call (.ref f) args) (CR CX0 outer P w H s Q E) s
section
variable {P : Program} {w : World} {K : PySem.W.Frag} {mg : Str → Option Value} {base : Heap}
theorem okG {x qual : Str} {st : Stmt} {f : Addr} {fd : FuncData} {N ps : List Str} {k : Nat} {sp : Sp} (F : Fun K x qual st f fd) (S : FnScope N ps (defScope st))
    (many : ∀ vs H Q E, sp vs H Q E → vs.length = ps.length)
    (body : ∀ (cdv : Value) (A : Around) (outer : List Env) (s : Shared) (H : Hp) (vs : List V) (Q : VK) (E : XK), A.guards = some [] →
      Room k (A.deeper (envOfC qual (defScope st) s.heap.objs.size f cdv)) → sp vs H Q E →
      ∃ t, PSs (cxOf CX0 P w K mg base N qual (defScope st) f cdv A outer s H E).nox (defBody st) t ∧ t { nx := fun _ H' => Q .non H', rt := Q } (start N vs) H) :
    FnG P w K mg base (k + 1) f fd ps sp := by
  obtain ⟨oc, od, kV, doc, pm, an, cdv, ct, osl, rfl, lk, hcd⟩ := F.ex
  refine ⟨many, ?_⟩
  intro A hg room outer s H args us vs Q E e0 bt rv want
  have size := many vs H Q E want
  have kin : K.In s.heap := e0.mod.kin.keeps fun b o e => (e0.bs b o e).1
  have noLim : s.heap.NoLimit := e0.mod.nolimit.keeps fun b o e => (e0.bs b o e).1
  refine codeAny_call_function room.depth (kin _ _ lk) rfl S.co S.gen rfl (PySem.W.codeRec_of kin hcd) (bt _ _ _ _ ?_)
  refine wpAny_newFunctionEnv_cells S.kind ?_ ?_
  · rintro ⟨nm, val⟩ mem
    exact (S.par nm (List.of_mem_zip mem).1).imp id fun c => ⟨c, PySem.W.cellsFrom_some _ _ _ (.inl c)⟩
  · rintro env rfl s1 entry
    refine ⟨noLim.keeps entry.toInCall.keep, codeAny_func ?_⟩
    obtain ⟨t, ht, now⟩ := body cdv A outer s H vs Q E hg (room.deeper _) want
    have J := inv_start (CX := CX0) (E := E) S room.hd e0 size rv entry
    refine wpAny_mono (ht.nox.run [] s1 (start N vs) H _ J now) (fun way s2 out => ?_) fun _ _ z => z
    cases way with
    | ret u =>
      obtain ⟨v, σ2, H2, J2, ru, q2⟩ := out
      exact ⟨v, H2, J2.os, J2.bare, J2.base, J2.hok, ru, q2⟩
    | next =>
      obtain ⟨σ2, H2, J2, q2⟩ := out
      exact ⟨V.non, H2, J2.os, J2.bare, J2.base, J2.hok, rfl, q2⟩
    | brk => exact out.elim fun _ z => z.elim fun _ y => y.2.elim
    | cont => exact out.elim fun _ z => z.elim fun _ y => y.2.elim
end
/-- a def of the module that may be called by its name -/
structure Cb (P : Program) (w : World) (K : PySem.W.Frag) (mg : Str → Option Value) (base : Heap) (k : Nat) (x : Str) (sp : Sp) : Prop where
  ex : ∃ (f : Addr) (fd : FuncData) (ps : List Str), FnG P w K mg base k f fd ps sp ∧ mg x = some (.ref f) ∧ PySem.W.keepIn K (.ref f) = true ∧ Binds K fd ps []
section
variable {X : Cx} {k j : Nat} {x : Str} {sp : Sp} {p pos : Pos} {e : Expr} {es : List Expr} {t : TA}
theorem pe_k (c : Cb X.prog X.w X.K X.mg X.base k x sp) (hg : X.A.guards = some []) (hr : Room j X.A) (hk : k ≤ j) (hx : Gl X x) (ha : PA X (e :: es) t)
    (hdb : (x == ("__debug__" : Str)) = false := by decide) (he : starEach (e :: es) X.env = (false, eval e X.env) :: starEach es X.env := by rfl)
    (hpl : (backTo pos (starEach es X.env)).any (·.1) = false := by rfl) : PE X (.Call (.Name x p) (e :: es) [] pos) (tCall sp [] E0 t) := by
  obtain ⟨f, fd, ps, G, hm, kp, bd⟩ := c.ex
  constructor
  intro pins s σ H Q I want
  refine wpAny_Call_Name_kw (ld_glob I hx hm ?_ hdb)
  refine PySem.W.callWith_K (h₀ := X.base) I.ok.mod.kin kp (thn (ha.run pos pins s σ H _ I want) ?_) he hpl
  rintro us s1 ⟨vs, H1, J, rv, q⟩
  refine ⟨J.kIn, ?_⟩
  have q' : sp vs H1 Q E0 := by simpa using q
  have size : us.length = ps.length := by
    rw [← rv.length]
    exact G.many _ _ _ _ q'
  have b1 : BindsTo s1 fd ⟨us, []⟩ (ps.zip us) := by
    have z := bd s1 us J.kIn (by simpa using size)
    simpa using z
  refine wpAny_call (codeAny_mono (G.go X.A hg (hr.mono hk) X.stack s1 H1 ⟨us, []⟩ us vs Q E0 J.env0 b1 rv q') ?_)
  intro r s2 out
  match r, out with
  | .error _, z => exact False.elim z
  | .ok (.ret u), z => exact J.after z
  | .ok .next, z => exact False.elim z
  | .ok .brk, z => exact False.elim z
  | .ok .cont, z => exact False.elim z
end
end Rt
namespace Rt
open PySem PySem.Spec L2
open PyProof.Rows hiding St
/-! ### the law's own call -/
abbrev isTrue1 (s₁ : Shared) : Result → Shared → Prop := fun r s' => r = .ok (.ret (.bool true)) ∧ OldK s₁.heap s'.heap ∧ s'.os = s₁.os ∧ AllBare s'.gens
/-- nothing but the script is tracked, at most -/
structure Bare (H : Hp) (h : Heap) (K : PySem.W.Frag) (a : Addr) : Prop where
  only : Only H
  here : ∀ b, H b ≠ none → b = a
  notK : H a ≠ none → K.lookup a = none
section
variable {P : Program} {w : World} {K : PySem.W.Frag} {mg mb : Str → Option Value} {k : Nat} {fa a : Addr} {fd : FuncData} {x : Str} {sp : Sp} {s₁ : Shared} {vs : List Value} {ns : List Int}
theorem bare_call {H : Hp} (B : Bare H s₁.heap K a) (ok : HOk P w H s₁.heap) (KX : K.In s₁.heap) (hns : s₁.heap.Ns mainGlobals mg) (hb : s₁.heap.Ns builtinsNs mb) (hbb : ∀ x : Str, x ≠ "__name__" → mb x = bootBuiltins x)
    (lim : s₁.heap.NoLimit) (gens : s₁.gens = #[]) (ha : s₁.heap.get? a = some { cls := .type "list", data := .seq vs.toArray }) (room : Room k callerA)
    (F : ∀ base : Heap, K.In base → base.Ns mainGlobals mg → FnG P w K mg base k fa fd [x] sp) (bind : ∀ (s : Shared) (u : Value), BindsTo s fd ⟨[u], []⟩ [(x, u)])
    (want : sp [.ref a] H (fun v _ => v = .bl true) E0) : codeAny (model P w) callerA (.call (.ref fa) ⟨[.ref a], []⟩) (isTrue1 s₁) s₁ := by
  -- an object that is no list is untracked
  have dictFree : ∀ {b : Addr} {o : Obj} {es : Array DictEntry} {ep : Nat}, s₁.heap.get? b = some o → o.data = .dict es ep → H b = none := by
    intro b o es ep hb hd
    by_cases z : H b = none
    · exact z
    · exfalso
      cases B.here b z
      rw [ha] at hb
      cases hb
      exact nomatch hd
  have kFree : ∀ {b : Addr} {o : Obj}, K.lookup b = some o → H b = none := by
    intro b o hb
    by_cases z : H b = none
    · exact z
    · exfalso
      cases B.here b z
      rw [B.notK z] at hb
      cases hb
  have names : ∀ {b : Addr} {m : Str → Option Value}, s₁.heap.Ns b m → (hidT s₁.heap H).Ns b m := by
    rintro b m ⟨o, es, ep, e, d, r⟩
    exact ⟨o, es, ep, hidT_get e (dictFree e d), d, r⟩
  have inBase : K.In (hidT s₁.heap H) := fun b o e => hidT_get (KX b o e) (kFree e)
  have noLim : (hidT s₁.heap H).NoLimit := by
    obtain ⟨mc, z1, z2⟩ := lim
    exact ⟨mc, names z1, z2⟩
  have e0 : Env0 P w K mg (hidT s₁.heap H) callerA [] s₁ H := by
    constructor
    · rfl
    · exact ⟨inBase, names hns, ⟨mb, names hb, hbb⟩, noLim⟩
    · exact fun b o e => of_hidT e
    · exact Nat.le_of_eq (hidT_size _ _)
    · exact True.intro
    · exact fun b hb => nomatch (show b ∈ ([] : List Addr) from hb)
    · exact ok
    · exact .of_eq gens
  have run := (F _ inBase (names hns)).go callerA rfl room [] s₁ H ⟨[.ref a], []⟩ [.ref a] [.ref a] _ _ e0 (bind s₁ (.ref a)) (.cons rfl .nil) want
  refine codeAny_mono run ?_
  intro r s2 out
  match r, out with
  | .error _, z => exact False.elim z
  | .ok .next, z => exact False.elim z
  | .ok .brk, z => exact False.elim z
  | .ok .cont, z => exact False.elim z
  | .ok (.ret u), ⟨v, H2, os, bare, un, ok2, ru, q⟩ =>
    obtain rfl : v = .bl true := q
    obtain rfl : u = Value.bool true := ru
    refine ⟨rfl, OldK.of_keep ?_, os, bare⟩
    intro b o e
    by_cases z : H b = none
    · exact un.keep b o e z (fun y => nomatch (show b ∈ ([] : List Addr) from y)) (fun y => nomatch (show b ∈ ([] : List Addr) from y))
    · rcases B.only b with y | ⟨ob, xs, y⟩
      · exact absurd y z
      · have e1 := (ok b _ y).1
        have e2 := (ok2 b _ (un.frzs b ob _ y)).1
        rw [e] at e1
        cases e1
        exact e2
theorem law_g (KX : K.In s₁.heap) (hns : s₁.heap.Ns mainGlobals mg) (hb : s₁.heap.Ns builtinsNs mb) (hbb : ∀ x : Str, x ≠ "__name__" → mb x = bootBuiltins x) (lim : s₁.heap.NoLimit) (gens : s₁.gens = #[])
    (ha : s₁.heap.get? a = some { cls := .type "list", data := .seq vs.toArray }) (nums : IntsAre vs ns) (fit : ns.length ≤ sizeLine) (room : Room k callerA)
    (F : ∀ base : Heap, K.In base → base.Ns mainGlobals mg → FnG P w K mg base k fa fd [x] sp) (bind : ∀ (s : Shared) (u : Value), BindsTo s fd ⟨[u], []⟩ [(x, u)])
    (want : ∀ H : Hp, Only H → SqL K H a (ns.map V.int) → sp [.ref a] H (fun v _ => v = .bl true) E0) :
    codeAny (model P w) callerA (.call (.ref fa) ⟨[.ref a], []⟩) (isTrue1 s₁) s₁ := by
  have rv := vals_ints nums
  have lv := nums.length
  rcases hk : K.lookup a with _ | o
  · -- the script is no object of the module's own
    let H : Hp := fun b => if b = a then some (.frz { cls := .type "list", data := .seq vs.toArray } (.lst (ns.map V.int))) else none
    have Ha : H a = some (.frz { cls := .type "list", data := .seq vs.toArray } (.lst (ns.map V.int))) := if_pos rfl
    have Hn : ∀ b, b ≠ a → H b = none := fun b z => if_neg z
    have only : Only H := fun b => by
      by_cases z : b = a
      · subst z
        exact .inr ⟨_, _, Ha⟩
      · exact .inl (Hn b z)
    have here : ∀ b, H b ≠ none → b = a := fun b z => by
      by_cases y : b = a
      · exact y
      · exact absurd (Hn b y) z
    have ok : HOk P w H s₁.heap := fun b u e => by
      by_cases y : b = a
      · subst y
        rw [Ha] at e
        cases e
        refine ⟨ha, ?_, vs, _, rv, ha⟩
        rw [List.length_map]
        exact fit
      · rw [Hn b y] at e
        cases e
    exact bare_call ⟨only, here, fun _ => hk⟩ ok KX hns hb hbb lim gens ha room F bind (want H only (.inl (.inr ⟨_, Ha⟩)))
  · have e := KX a o hk
    rw [ha] at e
    cases e
    have only : Only (fun _ => none) := fun _ => .inl rfl
    refine bare_call (H := fun _ => none) ⟨only, fun b z => absurd rfl z, fun z => absurd rfl z⟩ (fun b u e => nomatch e) KX hns hb hbb lim gens ha room F bind ?_
    refine want _ only (.inr ⟨_, vs.toArray, _, hk, rfl, rfl, rfl, ?_, by simpa using rv⟩)
    rw [List.size_toArray, lv]
    exact fit
theorem walk_g {l : PySem.W.OpenLaw} {n k : Nat} {q : Program} {loose : List Str} {XP : (Str → Option Value) → Heap → Prop} {YP : World → Heap → Prop} {d : DefRec} {K : Params → PySem.W.Frag} {sp : PySem.W.Frag → Sp} {x : Str}
    (hn : l.most = some n) (le : n ≤ sizeLine) (noDf : d.params.defaults = []) (room : Room k callerA) (hY : ∀ (w : World) (h : Heap), YP w h → (K w.params).In h)
    (F : ∀ (w : World) (mg : Str → Option Value) (fa : Addr) (h : Heap), (K w.params).In h → h.Ns mainGlobals mg → mg d.name = some (.ref fa) →
      ∃ fd : FuncData, (∀ (s : Shared) (u : Value), BindsTo s fd ⟨[u], []⟩ [(x, u)]) ∧
        ∀ base : Heap, (K w.params).In base → base.Ns mainGlobals mg → FnG l.prog w (K w.params) mg base k fa fd [x] (sp (K w.params)))
    (want : ∀ (K : PySem.W.Frag) (H : Hp) (a : Addr) (ns : List Int), ns.length ≤ n → SqL K H a (ns.map V.int) → sp K [.ref a] H (fun v _ => v = .bl true) E0) :
    PySem.W.WalkO q loose XP YP l.row.toRowW d [] (fun f vs => PySem.call f vs) := by
  refine Att.attach_call hn noDf ?_
  intro w s₀ s₁ mg mb fa o pm cd doc a vs ns G Y ho hd hcd hmg hobj nums few gens
  obtain ⟨fd, bind, each⟩ := F w mg fa _ (hY w _ Y) G.T.g hmg
  exact law_g (hY w _ Y) G.T.g G.T.b G.T.builtins G.T.nolimit gens hobj nums (Nat.le_trans few le) room each bind fun H _ hS => want _ H a ns few hS
end
end Rt
namespace K14
open PySem PySem.Spec L2 Rt
open PyProof.Rows hiding St
def top (i : Nat) : Stmt := PySem.Challenge.pw_roundticks_k14_great_numbers_and_slow_ri.main.body.getD i (.Pass ⟨0, 0, 0, 0⟩)
abbrev sSource : Stmt := top 31
abbrev sPick : Stmt := top 32
abbrev sOf : Stmt := top 33
/-! ### the source of numbers -/
theorem n_cl : ¬ (("cells" : Str) = "left") := by decide +kernel
theorem n_cm : ¬ (("cells" : Str) = "mixed") := by decide +kernel
theorem n_ct : ¬ (("cells" : Str) = "turn") := by decide +kernel
theorem n_lm : ¬ (("left" : Str) = "mixed") := by decide +kernel
theorem n_lt : ¬ (("left" : Str) = "turn") := by decide +kernel
theorem n_mt : ¬ (("mixed" : Str) = "turn") := by decide +kernel
def srcK (c : Addr) (l m t : Int) : List (Key × V) := [(Sum.inr "cells", .ref c), (Sum.inr "left", .int l), (Sum.inr "mixed", .int m), (Sum.inr "turn", .int t)]
theorem ne_inr {a b : Str} (h : ¬ a = b) : ¬ ((Sum.inr a : Key) = Sum.inr b) := fun e => h (Sum.inr.inj e)
theorem val_cells (c : Addr) (l m t : Int) : valV (srcK c l m t) (Sum.inr "cells") = some (.ref c) := valV_pos rfl
theorem val_left (c : Addr) (l m t : Int) : valV (srcK c l m t) (Sum.inr "left") = some (.int l) := by
  unfold srcK
  rw [valV_neg (ne_inr n_cl), valV_pos rfl]
theorem val_mixed (c : Addr) (l m t : Int) : valV (srcK c l m t) (Sum.inr "mixed") = some (.int m) := by
  unfold srcK
  rw [valV_neg (ne_inr n_cm), valV_neg (ne_inr n_lm), valV_pos rfl]
theorem val_turn (c : Addr) (l m t : Int) : valV (srcK c l m t) (Sum.inr "turn") = some (.int t) := by
  unfold srcK
  rw [valV_neg (ne_inr n_ct), valV_neg (ne_inr n_lt), valV_neg (ne_inr n_mt), valV_pos rfl]
theorem put_left (c : Addr) (l m t z : Int) : putK (srcK c l m t) (Sum.inr "left") (.int z) = srcK c z m t := by
  have h1 := ne_inr n_cl
  have h2 := ne_inr (fun e => n_lm e.symm)
  have h3 := ne_inr (fun e => n_lt e.symm)
  unfold putK srcK
  simp [h1, h2, h3]
theorem put_mixed (c : Addr) (l m t z : Int) : putK (srcK c l m t) (Sum.inr "mixed") (.int z) = srcK c l z t := by
  have h1 := ne_inr n_cm
  have h2 := ne_inr n_lm
  have h3 := ne_inr (fun e => n_mt e.symm)
  unfold putK srcK
  simp [h1, h2, h3]
theorem put_turn (c : Addr) (l m t z : Int) : putK (srcK c l m t) (Sum.inr "turn") (.int z) = srcK c l m z := by
  have h1 := ne_inr n_ct
  have h2 := ne_inr n_lt
  have h3 := ne_inr n_mt
  unfold putK srcK
  simp [h1, h2, h3]
section
variable {H : Hp} {d c : Addr} {l m t : Int}
theorem get_cells (h : H d = some (.dK (srcK c l m t))) : DGet H d (.str "cells") (some (.ref c)) := by
  have z := DGet.k (k := (Sum.inr "cells" : Key)) h
  rw [val_cells] at z
  exact z
theorem get_left (h : H d = some (.dK (srcK c l m t))) : DGet H d (.str "left") (some (.int l)) := by
  have z := DGet.k (k := (Sum.inr "left" : Key)) h
  rw [val_left] at z
  exact z
theorem get_mixed (h : H d = some (.dK (srcK c l m t))) : DGet H d (.str "mixed") (some (.int m)) := by
  have z := DGet.k (k := (Sum.inr "mixed" : Key)) h
  rw [val_mixed] at z
  exact z
theorem get_turn (h : H d = some (.dK (srcK c l m t))) : DGet H d (.str "turn") (some (.int t)) := by
  have z := DGet.k (k := (Sum.inr "turn" : Key)) h
  rw [val_turn] at z
  exact z
theorem few4 : (srcK c l m t).length < sizeLine := by show 4 < sizeLine; decide
theorem st_left (h : H d = some (.dK (srcK c l m t))) (z : Int) : DPut H d (.str "left") (.int z) (upd H d (.dK (srcK c z m t))) := by
  have q := DPut.k (k := (Sum.inr "left" : Key)) (v := .int z) h few4
  rw [put_left] at q
  exact q
theorem st_mixed (h : H d = some (.dK (srcK c l m t))) (z : Int) : DPut H d (.str "mixed") (.int z) (upd H d (.dK (srcK c l z t))) := by
  have q := DPut.k (k := (Sum.inr "mixed" : Key)) (v := .int z) h few4
  rw [put_mixed] at q
  exact q
theorem st_turn (h : H d = some (.dK (srcK c l m t))) (z : Int) : DPut H d (.str "turn") (.int z) (upd H d (.dK (srcK c l m z))) := by
  have q := DPut.k (k := (Sum.inr "turn" : Key)) (v := .int z) h few4
  rw [put_turn] at q
  exact q
end
/-- a source stands at d, its cells at c -/
structure Src (H : Hp) (d c : Addr) : Prop where
  ex : ∃ (ks : List Int) (l m t : Int), H d = some (.dK (srcK c l m t)) ∧ H c = some (.lst (ks.map V.int))
/-- all but the source stands as it was -/
def Keep (d c : Addr) (H H' : Hp) : Prop := ∀ b o, H b = some o → b ≠ d → b ≠ c → H' b = some o
theorem Keep.refl {d c : Addr} {H : Hp} : Keep d c H H := fun _ _ e _ _ => e
theorem Keep.trans {d c : Addr} {H H1 H2 : Hp} (a : Keep d c H H1) (b : Keep d c H1 H2) : Keep d c H H2 := fun x o e n1 n2 => b x o (a x o e n1 n2) n1 n2
theorem Keep.new {d c p : Addr} {o : HO} {H H1 : Hp} (a : Keep d c H H1) (n : H1 p = none) : Keep d c H (upd H1 p o) := fun x u e n1 n2 => by
  have z := a x u e n1 n2
  rw [upd_ne (ne_of_none z n)]
  exact z
theorem Keep.d {d c : Addr} {o : HO} {H H1 : Hp} (a : Keep d c H H1) : Keep d c H (upd H1 d o) := fun x u e n1 n2 => by
  rw [upd_ne n1]
  exact a x u e n1 n2
theorem Keep.c {d c : Addr} {o : HO} {H H1 : Hp} (a : Keep d c H H1) : Keep d c H (upd H1 c o) := fun x u e n1 n2 => by
  rw [upd_ne n2]
  exact a x u e n1 n2
theorem Src.new {d c p : Addr} {o : HO} {H : Hp} (S : Src H d c) (n : H p = none) : Src (upd H p o) d c := by
  obtain ⟨ks, l, m, t, h1, h2⟩ := S.ex
  exact ⟨ks, l, m, t, by rw [upd_ne (ne_of_none h1 n)]; exact h1, by rw [upd_ne (ne_of_none h2 n)]; exact h2⟩
theorem Src.nd {d c : Addr} {H : Hp} {b : Addr} {xs : List V} (S : Src H d c) (h : H b = some (.tup xs)) : b ≠ d ∧ b ≠ c := by
  obtain ⟨ks, l, m, t, h1, h2⟩ := S.ex
  exact ⟨ne_of h h1 (by intro z; cases z), ne_of h h2 (by intro z; cases z)⟩
theorem Keep.tup {d c : Addr} {H H1 : Hp} {b : Addr} {xs : List V} (a : Keep d c H H1) (S : Src H d c) (h : H b = some (.tup xs)) : H1 b = some (.tup xs) := a b _ h (S.nd h).1 (S.nd h).2
/-! ### the promises -/
def spSource (K : PySem.W.Frag) : Sp := fun vs H Q _ => ∃ (a : Addr) (ns : List Int), vs = [.ref a] ∧ SqL K H a (ns.map V.int) ∧ ns.length ≤ 63 ∧
  ∀ (d c : Addr) (H' : Hp), H d = none → H c = none → Src H' d c → Same H H' → Q (.ref d) H'
def spPick : Sp := fun vs H Q _ => ∃ (d c : Addr) (n : Int), vs = [.ref d, .int n] ∧ Src H d c ∧ n < 1000000000 ∧
  ∀ (r : Int) (H' : Hp), 0 ≤ r → r < n ∨ r = 0 → Src H' d c → Keep d c H H' → Q (.int r) H'
def spOf : Sp := fun vs H Q _ => ∃ (d c p : Addr) (xs : List V), vs = [.ref d, .ref p] ∧ Src H d c ∧ H p = some (.lst xs) ∧ p ≠ c ∧ 0 < xs.length ∧ xs.length < 1000000000 ∧
  ∀ (i : Nat) (v : V) (H' : Hp), xs[i]? = some v → Src H' d c → Keep d c H H' → Q v H'
section
variable {P : Program} {w : World} {K : PySem.W.Frag} {mg : Str → Option Value} {base : Heap}
theorem scPick : FnScope ["source", "many", "left", "mixed"] ["source", "many"] (defScope sPick) := ⟨rfl, rfl, rfl, by decide +kernel, rfl, by decide +kernel, by decide +kernel⟩
theorem ok_pick {f : Addr} {fd : FuncData} (F : Fun K "_law_pick" "_law_pick" sPick f fd) (mL : mg "len" = none) (mM : mg "max" = none) (mI : mg "int" = none) : FnG P w K mg base 1 f fd ["source", "many"] spPick := by
  refine okG F scPick (fun vs H Q E h => ?_) (fun cdv A outer s H vs Q E hg hr h => ?_)
  · obtain ⟨d, c, n, rfl, _⟩ := h
    rfl
  · obtain ⟨d, c, n, rfl, S, hn, k⟩ := h
    have hu := hu_of hr
    refine ⟨_, pss_cons (ps_while PassesOwn.never
        (PW.pt (pw_and (pt_cmpR op_gt (pv 1) pe_int (nomark _)) (pw_and (pt_cmpR op_lt (pe_dget hu (pv 0) pe_str (fun _ _ => rfl)) pe_int (nomark _))
          (pw_and1 (pt_cmpR op_gt (pe_callB call_len_seq (by rfl) mL PySem.boot_len (pa_cons (pe_dget hu (pv 0) pe_str (fun _ _ => rfl)) pa_nil)) pe_int (nomark _))))))
        (pss_one (ps_dput hu (pv 0) pe_str (pe_bm0 PySem.F.plainAttrs_list PySem.F.slot_list_pop PySem.F.type_list_pop mt_pop (pe_dget hu (pv 0) pe_str (fun _ _ => rfl))) rfl)))
      (pss_cons (ps_set (i := 2) scPick.nd rfl (.inl rfl) (pe_dget hu (pv 0) pe_str (fun _ _ => rfl)))
      (pss_cons (ps_if (PW.pt (pw_or (pt_cmpR op_lt (pv 1) pe_int (nomark _)) (pw_or1 (pt_cmpR op_gt (pv 2) pe_int (nomark _)))))
        (pss_cons (ps_dput hu (pv 0) pe_str (pe_op op_fdivW (pv 2) (pe_callB (call_max2 rfl) (by rfl) mM (by decide +kernel) (pa_cons pe_int (pa_cons (pv 1) pa_nil)))) rfl)
          (pss_one (ps_ret (pe_op op_mod (pe_callTy call_int1 (by rfl) mI (by decide +kernel) (pa_cons (pv 2) pa_nil)) (pe_callB (call_max2 rfl) (by rfl) mM (by decide +kernel) (pa_cons pe_int (pa_cons (pv 1) pa_nil)))))))
        pss_nil)
      (pss_cons (ps_dput hu (pv 0) pe_str (pe_op op_add (pe_dget hu (pv 0) pe_str (fun _ _ => rfl)) pe_int) rfl)
      (pss_cons (ps_set (i := 3) scPick.nd rfl (.inl rfl) (pe_op op_mod (pe_callTy call_int1 (by rfl) mI (by decide +kernel) (pa_cons (pe_op op_add (pe_dget hu (pv 0) pe_str (fun _ _ => rfl)) (pe_op op_mul (pe_dget hu (pv 0) pe_str (fun _ _ => rfl)) pe_int)) pa_nil)) pe_int))
      (pss_cons (ps_set (i := 3) scPick.nd rfl (.inl rfl) (pe_op op_mod (pe_callTy call_int1 (by rfl) mI (by decide +kernel) (pa_cons (pe_op op_add (pe_op op_mul (pv 3) (pv 3)) (pe_op op_mul (pe_dget hu (pv 0) pe_str (fun _ _ => rfl)) pe_int)) pa_nil)) pe_int))
      (pss_cons (ps_dput hu (pv 0) pe_str (pv 3) rfl)
      (pss_one (ps_ret (pe_op op_mod (pe_callTy call_int1 (by rfl) mI (by decide +kernel) (pa_cons (pe_op op_fdiv (pv 3) pe_int) pa_nil)) (pv 1)))))))))), ?_⟩
    obtain ⟨ks0, l0, m0, t0, e1, e2⟩ := S.ex
    have dc : d ≠ c := ne_of e1 e2 (by intro z; cases z)
    -- while many > 1 and source['left'] < 2 and len(source['cells']) > 0
    refine ⟨fun m σ H1 => ∃ (ks : List Int) (l mx t : Int), m = ks.length ∧ σ = [some (.ref d), some (.int n), none, none] ∧ Keep d c H H1 ∧ H1 d = some (.dK (srcK c l mx t)) ∧ H1 c = some (.lst (ks.map V.int)),
      ⟨_, ks0, l0, m0, t0, rfl, rfl, Keep.refl, e1, e2⟩, ?_⟩
    rintro m σ H1 ⟨ks, l, mx, t, rfl, rfl, kp, hd, hc⟩
    refine ⟨_, rfl, _, _, rfl, rfl, _, rfl, ?_⟩
    by_cases g : 1 < n ∧ l < 2 ∧ 0 < ks.length
    · obtain ⟨g1, g2, g3⟩ := g
      rw [decide_eq_true g1]
      refine iteT ?_
      refine ⟨_, rfl, d, _, rfl, get_left hd, _, _, rfl, rfl, _, rfl, ?_⟩
      rw [decide_eq_true g2]
      refine iteT ?_
      refine ⟨_, rfl, d, _, rfl, get_cells hd, c, _, rfl, .inl (.inl (.inl hc)), _, _, rfl, rfl, _, rfl, ?_⟩
      rw [decide_eq_true (show (0 : Int) < ((ks.map V.int).length : Int) by rw [List.length_map]; omega)]
      refine iteT ?_
      obtain ⟨z, hz⟩ : ∃ z, ks[ks.length - 1]? = some z := ⟨ks[ks.length - 1], List.getElem?_eq_getElem (by omega)⟩
      refine ⟨fun σ2 H2 => σ2 = [some (.ref d), some (.int n), none, none] ∧ Keep d c H H2 ∧ H2 d = some (.dK (srcK c z mx t)) ∧ H2 c = some (.lst (ks.dropLast.map V.int)), ?_, ?_⟩
      · rintro σ2 H2 ⟨rfl, k2, d2, c2⟩
        refine ⟨ks.dropLast.length, ?_, ks.dropLast, z, mx, t, rfl, rfl, k2, d2, c2⟩
        rw [List.length_dropLast]
        omega
      · -- source['left'] = source['cells'].pop()
        have cd : d ≠ c := dc
        have hd2 : (upd H1 c (.lst (ks.map V.int).dropLast)) d = some (.dK (srcK c l mx t)) := by rw [upd_ne cd]; exact hd
        refine ⟨_, rfl, d, _, rfl, get_cells hd, .inl ⟨rfl, _, .inl (.inl hc)⟩, c, _, .int z, rfl, rfl, hc, ?_, _, rfl, d, _, rfl, st_left hd2 z, ?_⟩
        · rw [List.length_map, List.getElem?_map, hz]
          rfl
        · refine ⟨rfl, (kp.c).d, upd_same, ?_⟩
          rw [upd_ne cd.symm, upd_same, List.map_dropLast]
    · have nolen : 1 < n → l < 2 → ¬ (0 : Int) < ((ks.map V.int).length : Int) := fun g1 g2 g3 => g ⟨g1, g2, by rw [List.length_map] at g3; omega⟩
      refine (fun (fin : (?T : Prop)) => ?main) ?after
      case main =>
        by_cases g1 : 1 < n
        · rw [decide_eq_true g1]
          refine iteT ?_
          refine ⟨_, rfl, d, _, rfl, get_left hd, _, _, rfl, rfl, _, rfl, ?_⟩
          by_cases g2 : l < 2
          · rw [decide_eq_true g2]
            refine iteT ?_
            refine ⟨_, rfl, d, _, rfl, get_cells hd, c, _, rfl, .inl (.inl (.inl hc)), _, _, rfl, rfl, _, rfl, ?_⟩
            rw [decide_eq_false (nolen g1 g2)]
            refine iteF ?_
            exact fin
          · rw [decide_eq_false g2]
            exact iteF (iteF fin)
        · rw [decide_eq_false g1]
          exact iteF (iteF fin)
      case after =>
        -- left = source['left']
        refine ⟨_, rfl, d, _, rfl, get_left hd, ?_⟩
        have mx1 : ∀ n : Int, 0 < (if n > 1 then n else (1 : Int)) := fun n => by split <;> omega
        have mx2 : n < 1000000000 → (if n > 1 then n else (1 : Int)).natAbs < 2 ^ 60 := fun z => by split <;> omega
        -- if many < 2 or left > 1
        refine ⟨_, rfl, _, _, rfl, rfl, _, rfl, ?_⟩
        by_cases g : n < 2 ∨ 1 < l
        · by_cases g1 : n < 2
          all_goals first
            | (rw [decide_eq_true (show n < 2 by assumption)]
               refine iteT (iteT ?_))
            | (rw [decide_eq_false (show ¬ n < 2 by assumption)]
               refine iteF ?_
               refine ⟨_, rfl, _, _, rfl, rfl, _, rfl, ?_⟩
               rw [decide_eq_true (g.resolve_left g1)]
               refine iteT ?_)
          all_goals
            -- source['left'] = left // max(1, many); return int(left) % max(1, many)
            refine ⟨_, rfl, _, rfl, _, _, rfl, _, _, rfl, rfl, wide_div (mx1 n) (mx2 hn) (by decide) (by decide), _, rfl, d, _, rfl, st_left hd _, ?_⟩
            refine ⟨_, rfl, .inl ⟨_, rfl, _, rfl, _, _, rfl, _, _, rfl, rfl, mx1 n, ?_⟩⟩
            refine k _ _ (Int.emod_nonneg _ (Int.ne_of_gt (mx1 n))) ?_ ⟨ks, _, mx, t, upd_same, ?_⟩ kp.d
            · have z := Int.emod_lt_of_pos l (mx1 n)
              have z0 := Int.emod_nonneg l (Int.ne_of_gt (mx1 n))
              by_cases y : n > 1
              · rw [if_pos y] at z z0 ⊢
                exact .inl z
              · rw [if_neg y] at z z0 ⊢
                right
                omega
            · rw [upd_ne dc.symm]
              exact hc
        · rw [decide_eq_false (fun z => g (.inl z))]
          refine iteF ?_
          refine ⟨_, rfl, _, _, rfl, rfl, _, rfl, ?_⟩
          rw [decide_eq_false (fun z => g (.inr z))]
          refine iteF ?_
          have g1 : ¬ n < 2 := fun z => g (.inl z)
          -- source['turn'] = source['turn'] + 1
          refine ⟨_, rfl, d, _, rfl, get_turn hd, _, _, rfl, rfl, _, rfl, d, _, rfl, st_turn hd (t + 1), ?_⟩
          have hd2 : (upd H1 d (.dK (srcK c l mx (t + 1)))) d = some (.dK (srcK c l mx (t + 1))) := upd_same
          -- mixed = int(source['mixed'] + source['turn'] * 104729) % 998244353
          refine ⟨_, rfl, d, _, rfl, get_mixed hd2, _, rfl, d, _, rfl, get_turn hd2, _, _, rfl, rfl, .inr ⟨by decide, by decide⟩, _, _, rfl, rfl, .inl ⟨_, rfl, _, _, rfl, rfl, (by show (0 : Int) < 998244353; decide), ?_⟩⟩
          have b1 : 0 ≤ (mx + (t + 1) * 104729) % 998244353 := Int.emod_nonneg _ (by decide)
          have b2 : (mx + (t + 1) * 104729) % 998244353 < 998244353 := Int.emod_lt_of_pos _ (by decide)
          generalize (mx + (t + 1) * 104729) % 998244353 = y at b1 b2 ⊢
          -- mixed = int(mixed * mixed + source['turn'] * 17) % 2147483647
          refine ⟨_, rfl, _, rfl, _, _, rfl, rfl, .inl ⟨by omega, by omega⟩, _, rfl, d, _, rfl, get_turn hd2, _, _, rfl, rfl, .inr ⟨by decide, by decide⟩, _, _, rfl, rfl, .inl ⟨_, rfl, _, _, rfl, rfl, (by show (0 : Int) < 2147483647; decide), ?_⟩⟩
          -- source['mixed'] = mixed; return int(mixed // 16) % many
          refine ⟨_, rfl, _, rfl, d, _, rfl, st_mixed hd2 _, ?_⟩
          refine ⟨_, rfl, _, _, rfl, rfl, ⟨by decide, by decide⟩, .inl ⟨_, rfl, _, rfl, _, _, rfl, rfl, (by show (0 : Int) < n; omega), ?_⟩⟩
          refine k _ _ (Int.emod_nonneg _ (by omega)) (.inl (Int.emod_lt_of_pos _ (by omega))) ⟨ks, l, _, t + 1, upd_same, ?_⟩ (kp.d).d
          rw [upd_ne dc.symm, upd_ne dc.symm]
          exact hc
theorem scOf : FnScope ["source", "some"] ["source", "some"] (defScope sOf) := ⟨rfl, rfl, rfl, by decide +kernel, rfl, by decide +kernel, by decide +kernel⟩
theorem ok_of {f : Addr} {fd : FuncData} (F : Fun K "_law_of" "_law_of" sOf f fd) (mL : mg "len" = none) (CP : Cb P w K mg base 1 "_law_pick" spPick) : FnG P w K mg base 2 f fd ["source", "some"] spOf := by
  refine okG F scOf (fun vs H Q E h => ?_) (fun cdv A outer s H vs Q E hg hr h => ?_)
  · obtain ⟨d, c, p, xs, rfl, _⟩ := h
    rfl
  · obtain ⟨d, c, p, xs, rfl, S, hp, pc, h0, hl, k⟩ := h
    refine ⟨_, pss_one (ps_ret (pe_ix ix_list (pv 1) (pe_k CP hg hr (by decide) (by rfl) (pa_cons (pv 0) (pa_cons (pe_callB call_len_seq (by rfl) mL PySem.boot_len (pa_cons (pv 1) pa_nil)) pa_nil))) (fun _ _ => rfl))), ?_⟩
    refine ⟨_, rfl, _, rfl, _, rfl, p, _, rfl, .inl (.inl (.inl hp)), d, c, _, rfl, S, (by omega), ?_⟩
    intro r H1 r0 r1 S1 kp
    have rn : r < xs.length := by omega
    obtain ⟨j, ej⟩ : ∃ j : Nat, r = (j : Int) := ⟨r.toNat, by omega⟩
    have hj : j < xs.length := by omega
    have pd : p ≠ d := by
      obtain ⟨ks, l, m, t, q1, q2⟩ := S.ex
      exact ne_of hp q1 (by intro z; cases z)
    refine ⟨p, xs, r, xs[j], rfl, rfl, .inl (.inl (kp p _ hp pd pc)), at_of (j := j) ej (List.getElem?_eq_getElem hj), ?_⟩
    exact k j xs[j] H1 (List.getElem?_eq_getElem hj) S1 kp
end
end K14
namespace K14
open PySem PySem.Spec L2 Rt
open PyProof.Rows hiding St
theorem merge_src (c : Addr) (l m t : Int) : mergeK [] (srcK c l m t) = srcK c l m t := by
  have h1 := ne_inr n_cl
  have h2 := ne_inr n_cm
  have h3 := ne_inr n_ct
  have h4 := ne_inr n_lm
  have h5 := ne_inr n_lt
  have h6 := ne_inr n_mt
  unfold mergeK srcK putK
  simp [h1, h2, h3, h4, h5, h6]
/-- an item of a list of ints -/
theorem int_at {ns : List Int} {i : Nat} {y : V} (h : (ns.map V.int)[i]? = some y) : ∃ z, ns[i]? = some z ∧ y = V.int z := by
  rw [List.getElem?_map] at h
  cases e : ns[i]? with
  | none => rw [e] at h; cases h
  | some z => rw [e] at h; exact ⟨z, rfl, (Option.some.inj h).symm⟩
theorem same_new {H : Hp} {p : Addr} {o : HO} (n : H p = none) : Same H (upd H p o) := fun b u e => by
  rw [upd_ne (ne_of_none e n)]
  exact e
section
variable {P : Program} {w : World} {K : PySem.W.Frag} {mg : Str → Option Value} {base : Heap}
theorem scSource : FnScope ["script", "mixed", "cell"] ["script"] (defScope sSource) := ⟨rfl, rfl, rfl, by decide +kernel, rfl, by decide +kernel, by decide +kernel⟩
theorem ok_source {f : Addr} {fd : FuncData} (F : Fun K "_law_source" "_law_source" sSource f fd) (mA : mg "abs" = none) (mI : mg "int" = none) : FnG P w K mg base 1 f fd ["script"] (spSource K) := by
  refine okG F scSource (fun vs H Q E h => ?_) (fun cdv A outer s H vs Q E hg hr h => ?_)
  · obtain ⟨a, ns, rfl, _⟩ := h
    rfl
  · obtain ⟨a, ns, rfl, hS, hl, k⟩ := h
    refine ⟨_, pss_cons (ps_set (i := 1) scSource.nd rfl (.inl rfl) pe_int)
      (pss_cons (ps_for PassesOwn.never rfl (pi_list (pv 0)) (pg_name (i := 2) scSource.nd rfl (.inl rfl))
        (pss_one (ps_set (i := 1) scSource.nd rfl (.inl rfl) (pe_op op_mod (pe_callTy call_int1 (by rfl) mI (by decide +kernel)
          (pa_cons (pe_op op_add (pe_op op_add (pe_op op_mul (pv 1) pe_int) (pe_op op_mul (pv 2) pe_int)) pe_int) pa_nil)) pe_int))))
      (pss_one (ps_ret (pe_disp (pps_cons pe_str (pe_revL (pe_lc (own := [("cell", 2)]) (g := gName 2) (tt := tYes) rfl scSource.nd (pi_list (pv 0))
          (blkOk_by (N := ["script", "mixed", "cell"]) (sc := defScope sSource) (by decide +kernel)) (fun _ _ _ _ _ => pg_name (i := 2) scSource.nd rfl (Or.inl rfl)) (fun _ _ _ _ _ => pts_nil)
          (fun _ _ _ _ _ => pe_callB call_abs (by rfl) mA (by decide +kernel) (pa_cons (pv 2) pa_nil))))
        (pps_cons pe_str pe_int (pps_cons pe_str (pv 1) (pps_cons pe_str pe_int pps_nil)))) (by rfl) (by rfl) (fun z => by cases z) (by decide))))), ?_⟩
    refine ⟨_, rfl, a, rfl, ⟨_, hS⟩, for_list (K := K) (a := a) (xs := ns.map V.int) (fun i σ H2 => ∃ (m : Int) (v : Option V), σ = [some (.ref a), some (.int m), v] ∧ H2 = H)
      ⟨11, none, rfl, rfl⟩ (fun i σ H2 _ ⟨_, _, _, e⟩ => by rw [e]; exact hS) ?_ ?_⟩
    · rintro i y σ H2 hi ⟨m, v, rfl, rfl⟩
      obtain ⟨z, hz, rfl⟩ := int_at hi
      refine ⟨_, rfl, _, _, rfl, rfl, .inr ⟨by decide, by decide⟩, _, rfl, _, _, rfl, rfl, .inr ⟨by decide, by decide⟩, _, _, rfl, rfl, _, _, rfl, rfl, .inl ⟨_, rfl, _, _, rfl, rfl, (by show (0 : Int) < 2147483629; decide), ?_⟩⟩
      exact ⟨_, _, rfl, rfl⟩
    · rintro σ H2 ⟨m, v, rfl, rfl⟩
      intro p np
      have s1 := same_new (o := .dK []) np
      refine ⟨_, rfl, a, rfl, ⟨_, s1.seq hS⟩, fun D nD => ?_⟩
      have s2 := s1.trans (same_new (o := .lst []) nD)
      have npD : p ≠ D := ne_of_none upd_same nD
      refine lc_list (K := K) (a := a) (xs := ns.map V.int) (fun i H3 => Same H2 H3 ∧ H3 p = some (.dK []) ∧ ∃ ks : List Int, ks.length = i ∧ H3 D = some (.lst (ks.map V.int)))
        ⟨s2, by rw [upd_ne npD]; exact upd_same, [], rfl, upd_same⟩ (fun i H3 _ ⟨s3, _⟩ => s3.seq hS) ?_ ?_
      · rintro i y H3 hi ⟨s3, hp, ks, rfl, hD⟩
        obtain ⟨z, hz, rfl⟩ := int_at hi
        have il : ks.length < ns.length := (List.getElem?_eq_some_iff.mp hz).1
        refine ⟨rfl, _, rfl, _, rfl, _, hD, ?_, ?_⟩
        · rw [List.length_map]
          exact small1000 (by omega)
        · have nD2 : H2 D = none := s1.free nD
          refine ⟨fun b o e => by rw [upd_ne (ne_of_none e nD2)]; exact s3 b o e, by rw [upd_ne npD]; exact hp, ks ++ [if z < 0 then -z else z], by simp, ?_⟩
          rw [upd_same, List.map_append]
          rfl
      · rintro H3 ⟨s3, hp, ks, ek, hD⟩
        refine ⟨D, _, rfl, .inl (.inl hD), fun c nc => ?_⟩
        refine ⟨_, rfl, ?_, srcK c 1 m 0, rfl, (by show 4 ≤ 15; decide), ?_⟩
        · rw [upd_ne (ne_of_none hp nc)]
          exact hp
        · rw [merge_src]
          have pc : p ≠ c := ne_of_none hp nc
          refine k p c _ np (s3.free nc) ⟨ks.reverse, 1, m, 0, upd_same, ?_⟩ fun b o e => ?_
          · rw [upd_ne pc.symm, upd_same, List.map_reverse]
          · have z := s3 b o e
            rw [upd_ne (ne_of_none e np), upd_ne (ne_of_none z nc)]
            exact z
end
end K14
namespace K14
open PySem PySem.Spec L2 Rt
open PyProof.Rows hiding St
/-! ### words -/
abbrev LET : Str := "abcdefghijklmnopqrstuvwxyz"
abbrev SGN : Str := "abcdefghijklmnopqrstuvwxyz0123456789"
def digs (i : Int) : Str := cutS (Str.ofString (toString (100 + i))) (some 1) none
theorem digs_tab : ∀ n : Nat, n < 100 → (digs (n : Int)).cps.toList = [48 + n / 10, 48 + n % 10] := by decide +kernel
theorem app_list (a b : Str) : (a ++ b).cps.toList = a.cps.toList ++ b.cps.toList := by
  show (a.cps ++ b.cps).toList = _
  simp
structure Word (w : Str) : Prop where
  le : w.length ≤ 12
  hd : ∃ c r, w.cps.toList = c :: r ∧ c ∈ LET.cps.toList
  sg : ∀ x, x ∈ w.cps.toList → x ∈ SGN.cps.toList
def key (w : Str) : Nat := (w.cps.toList.getD 1 0 - 48) * 10 + (w.cps.toList.getD 2 0 - 48)
theorem let_sgn : ∀ x, x ∈ LET.cps.toList → x ∈ SGN.cps.toList := by decide +kernel
theorem dig_sgn : ∀ n : Nat, n < 10 → 48 + n ∈ SGN.cps.toList := by decide +kernel
def tailOk (t : Str) : Prop := t.length ≤ 9 ∧ ∀ x, x ∈ t.cps.toList → x ∈ SGN.cps.toList
theorem word_mk {c : Nat} {n : Nat} {t : Str} (hc : c ∈ LET.cps.toList) (hn : n < 100) (ht : tailOk t) : Word ((⟨#[c]⟩ ++ digs (n : Int)) ++ t) ∧ key ((⟨#[c]⟩ ++ digs (n : Int)) ++ t) = n := by
  have e : ((⟨#[c]⟩ ++ digs (n : Int)) ++ t : Str).cps.toList = c :: (48 + n / 10) :: (48 + n % 10) :: t.cps.toList := by
    rw [app_list, app_list, digs_tab n hn]
    rfl
  refine ⟨⟨?_, ⟨c, _, e, hc⟩, fun x hx => ?_⟩, ?_⟩
  · have l : ((⟨#[c]⟩ ++ digs (n : Int)) ++ t : Str).length = t.length + 3 := by
      show Array.size _ = _
      rw [← Array.length_toList, e]
      show t.cps.toList.length + 1 + 1 + 1 = t.cps.size + 3
      rw [Array.length_toList]
    rw [l]
    have := ht.1
    omega
  · rw [e] at hx
    rcases List.mem_cons.mp hx with rfl | hx
    · exact let_sgn _ hc
    · rcases List.mem_cons.mp hx with rfl | hx
      · exact dig_sgn _ (by omega)
      · rcases List.mem_cons.mp hx with rfl | hx
        · exact dig_sgn _ (by omega)
        · exact ht.2 _ hx
  · unfold key
    rw [e]
    show (48 + n / 10 - 48) * 10 + (48 + n % 10 - 48) = n
    omega
def place (s : Int) (k : Nat) : Nat := ((s + 37 * (k : Int)) % 100).toNat
theorem place_ne {s : Int} {a b : Nat} (h : a < b) (hb : b < 100) : place s a ≠ place s b := by
  unfold place
  omega
theorem nodup_of {s : Int} {ws : List Str} {n : Nat} (hn : n ≤ 100) (h : ws.map key = (List.range n).map (place s)) : ws.Nodup := by
  have h1 : ((List.range n).map (place s)).Pairwise (· ≠ ·) := by
    rw [List.pairwise_map]
    refine List.Pairwise.imp_of_mem (fun {a b} _ hb lt => ?_) (List.pairwise_lt_range (n := n))
    exact place_ne lt (Nat.lt_of_lt_of_le (List.mem_range.mp hb) hn)
  rw [← h] at h1
  exact List.Pairwise.of_map key (fun a b ne e => ne (congrArg key e)) h1
end K14
namespace K14
open PySem PySem.Spec L2 Rt
open PyProof.Rows hiding St
def spNames : Sp := fun vs H Q _ => ∃ (d c : Addr) (n : Nat), vs = [.ref d, .int n] ∧ Src H d c ∧ n ≤ 100 ∧
  ∀ (L : Addr) (ws : List Str) (H' : Hp), H L = none → Src H' d c → Keep d c H H' → H' L = some (.lst (ws.map V.str)) → ws.length = n → (∀ w, w ∈ ws → Word w) → ws.Nodup → Q (.ref L) H'
theorem pick_at {α : Type} {xs : List α} {r : Int} (h0 : 0 ≤ r) (h1 : r < xs.length) : ∃ v, atI xs r = some v ∧ v ∈ xs := by
  obtain ⟨j, ej⟩ : ∃ j : Nat, r = (j : Int) := ⟨r.toNat, by omega⟩
  have hj : j < xs.length := by omega
  refine ⟨xs[j], ?_, List.getElem_mem hj⟩
  subst ej
  unfold atI ixN
  rw [if_pos h0, if_pos h1]
  show xs[((j : Int)).toNat]? = _
  rw [Int.toNat_natCast, List.getElem?_eq_getElem hj]
theorem Src.away {d c p : Addr} {H : Hp} (S : Src H d c) (n : H p = none) : p ≠ d ∧ p ≠ c := by
  obtain ⟨ks, l, m, u, h1, h2⟩ := S.ex
  exact ⟨(ne_of_none h1 n).symm, (ne_of_none h2 n).symm⟩
theorem Src.put {d c L : Addr} {o : HO} {H : Hp} (S : Src H d c) (a : L ≠ d ∧ L ≠ c) : Src (upd H L o) d c := by
  obtain ⟨ks, l, m, u, h1, h2⟩ := S.ex
  exact ⟨ks, l, m, u, by rw [upd_ne a.1.symm]; exact h1, by rw [upd_ne a.2.symm]; exact h2⟩
theorem Keep.put {d c L : Addr} {o : HO} {H H1 : Hp} (a : Keep d c H H1) (n : H L = none) : Keep d c H (upd H1 L o) := fun x u e n1 n2 => by
  rw [upd_ne (ne_of_none e n)]
  exact a x u e n1 n2
theorem tails_ok : ∀ v, v ∈ [V.str "", V.str "", V.str "", V.str "k", V.str "kkkkkkkkk"] → ∃ t : Str, v = .str t ∧ tailOk t := by
  intro v h
  have a : tailOk "" := ⟨by decide +kernel, by decide +kernel⟩
  have b : tailOk "k" := ⟨by decide +kernel, by decide +kernel⟩
  have c : tailOk "kkkkkkkkk" := ⟨by decide +kernel, by decide +kernel⟩
  rcases List.mem_cons.mp h with rfl | h
  · exact ⟨_, rfl, a⟩
  rcases List.mem_cons.mp h with rfl | h
  · exact ⟨_, rfl, a⟩
  rcases List.mem_cons.mp h with rfl | h
  · exact ⟨_, rfl, a⟩
  rcases List.mem_cons.mp h with rfl | h
  · exact ⟨_, rfl, b⟩
  rcases List.mem_cons.mp h with rfl | h
  · exact ⟨_, rfl, c⟩
  cases h
theorem str_small (n : Nat) (h : n < 100) : (100 + (n : Int)).natAbs.log2 < 1920 := by
  have e : (100 + (n : Int)).natAbs = 100 + n := by omega
  rw [e]
  refine Nat.lt_of_lt_of_le ((Nat.log2_lt (by omega)).mpr (show 100 + n < 2 ^ 8 by omega)) (by decide)
theorem str_short : ∀ n : Nat, n < 100 → (Str.ofString (toString (100 + (n : Int)))).length ≤ sizeLine := fun n h => Nat.le_trans ((by decide +kernel : ∀ n : Nat, n < 100 → (Str.ofString (toString (100 + (n : Int)))).length ≤ 3) n h) (by decide)
theorem digs_len (n : Nat) (h : n < 100) : (digs (n : Int)).length = 2 := by
  show Array.size _ = 2
  rw [← Array.length_toList, digs_tab n h]
  rfl
theorem two_le {c : Nat} (n : Nat) (h : n < 100) : (⟨#[c]⟩ : Str).length + (digs (n : Int)).length ≤ sizeLine := by
  rw [digs_len n h]
  show 1 + 2 ≤ sizeLine
  decide
theorem two3 (c : Nat) (n : Nat) (h : n < 100) : ((⟨#[c]⟩ : Str) ++ digs (n : Int)).length ≤ 3 := by
  show Array.size _ ≤ 3
  rw [← Array.length_toList, app_list, List.length_append, digs_tab n h]
  exact Nat.le_refl 3
section
variable {P : Program} {w : World} {K : PySem.W.Frag} {mg : Str → Option Value} {base : Heap}
end
end K14
namespace Rt
open PySem PySem.Spec L2
open PyProof.Rows hiding St
/-! ### the defs as the top has left them -/
structure At (K : PySem.W.Frag) (mg : Str → Option Value) (x : Str) (st : Stmt) : Prop where
  ex : ∃ (f : Addr) (fd : FuncData), Fun K x x st f fd ∧ mg x = some (.ref f)
section
variable {P : Program} {w : World} {K : PySem.W.Frag} {mg : Str → Option Value} {base h : Heap} {x : Str} {st : Stmt}
theorem at_mk {f : Addr} {oc kV dc pm cd ct : Value} {od an : Option Addr} {sl : Array (Option Value)} (X : K.In h) (G : h.Ns mainGlobals mg) (a : PySem.W.nsIn K mainGlobals x = some (some (.ref f)))
    (l : K.lookup f = some ⟨oc, od, .func (PySem.W.fnOf x x (defArgs st) (defBody st) (defScope st) .none kV dc pm an cd ct), sl⟩) (c : PySem.W.codeIn K cd x = true) (k : PySem.W.keepIn K (.ref f) = true) : At K mg x st :=
  ⟨f, _, fun_mk l c k, PySem.W.mg_of X G a⟩
theorem At.cb {k : Nat} {ps : List Str} {sp : Sp} (A : At K mg x st) (ok : ∀ (f : Addr) (fd : FuncData), Fun K x x st f fd → FnG P w K mg base k f fd ps sp)
    (bd : ∀ (f : Addr) (fd : FuncData), Fun K x x st f fd → Binds K fd ps []) : Cb P w K mg base k x sp := by
  obtain ⟨f, fd, F, m⟩ := A.ex
  exact ⟨f, fd, ps, ok f fd F, m, F.kp, bd f fd F⟩
end
end Rt
namespace Rt
open PySem PySem.Spec L2
open PyProof.Rows hiding St
/-! ### defs that may be called under any guards -/
structure Cf (P : Program) (w : World) (K : PySem.W.Frag) (mg : Str → Option Value) (base : Heap) (k : Nat) (x : Str) (sp : Sp) : Prop where
  ex : ∃ (f : Addr) (fd : FuncData) (ps : List Str), FnOk P w K mg base CX0 k f fd ps sp ∧ mg x = some (.ref f) ∧ PySem.W.keepIn K (.ref f) = true ∧ Binds K fd ps []
section
variable {P : Program} {w : World} {K : PySem.W.Frag} {mg : Str → Option Value} {base : Heap} {k : Nat} {x : Str} {sp : Sp} {st : Stmt}
theorem Cf.toB (c : Cf P w K mg base k x sp) : Cb P w K mg base k x sp := by
  obtain ⟨f, fd, ps, F, m, kp, b⟩ := c.ex
  exact ⟨f, fd, ps, ⟨F.len, fun A _ r o s H a us vs Q E => F.run A o s H a us vs Q E r⟩, m, kp, b⟩
theorem At.cf {ps : List Str} (A : At K mg x st) (ok : ∀ (f : Addr) (fd : FuncData), Fun K x x st f fd → FnOk P w K mg base CX0 k f fd ps sp)
    (bd : ∀ (f : Addr) (fd : FuncData), Fun K x x st f fd → Binds K fd ps []) : Cf P w K mg base k x sp := by
  obtain ⟨f, fd, F, m⟩ := A.ex
  exact ⟨f, fd, ps, ok f fd F, m, F.kp, bd f fd F⟩
end
section
variable {X : Cx} {k j : Nat} {x : Str} {sp : Sp} {p pos : Pos} {e : Expr} {es : List Expr} {t : TA}
theorem pe_f (c : Cf X.prog X.w X.K X.mg X.base k x sp) (hr : Room j X.A) (hk : k ≤ j) (hx : Gl X x) (ha : PA X (e :: es) t)
    (hdb : (x == ("__debug__" : Str)) = false := by decide) (he : starEach (e :: es) X.env = (false, eval e X.env) :: starEach es X.env := by rfl)
    (hpl : (backTo pos (starEach es X.env)).any (·.1) = false := by rfl) : PE X (.Call (.Name x p) (e :: es) [] pos) (tCall sp [] E0 t) := by
  obtain ⟨f, fd, ps, F, hm, kp, bd⟩ := c.ex
  exact pe_call F (hr.mono hk) hx hm kp bd .nil (fun _ _ _ _ _ _ _ z => z.elim) ha hdb he hpl
end
end Rt
namespace K14
open PySem PySem.Spec L2 Rt
open PyProof.Rows hiding St
abbrev sIsWord : Stmt := top 12
abbrev sIsInt : Stmt := top 13
abbrev sIsName : Stmt := top 18
abbrev sWip : Stmt := top 19
abbrev sWips : Stmt := top 20
abbrev sWir : Stmt := top 21
abbrev sWirs : Stmt := top 22
structure Wds (mg : Str → Option Value) : Prop where
  zisinstance : mg "isinstance" = none
  zlen : mg "len" = none
  zall : mg "all" = none
  zint : mg "int" = none
  zbool : mg "bool" = none
  zstr : mg "str" = none
  ztuple : mg "tuple" = none
  zlist : mg "list" = none
  zenumerate : mg "enumerate" = none
  let_ : ∃ t, mg "LETTERS" = some (.str LET t)
  sgn : ∃ t, mg "WORD_SIGNS" = some (.str SGN t)
  lw : ∃ t, mg "LONGEST_WORD" = some (.int 12 t)
  gs : ∃ t, mg "GREATEST_STEP" = some (.int 60 t)
/-! ### points and rules -/
abbrev Pt := Str × Int × Int
abbrev Rl := Str × Str × Int
def ptV (p : Pt) : HO := .tup [.str p.1, .int p.2.1, .int p.2.2]
def rlV (r : Rl) : HO := .tup [.str r.1, .str r.2.1, .int r.2.2]
def PtOk (p : Pt) : Prop := Word p.1 ∧ 1 ≤ p.2.2 ∧ p.2.2 ≤ 60
def Row {α : Type} (f : α → HO) (H : Hp) (as : List Addr) (ps : List α) : Prop := as.length = ps.length ∧ ∀ (i : Nat) (a : Addr) (p : α), as[i]? = some a → ps[i]? = some p → H a = some (f p)
theorem Row.same {α : Type} {f : α → HO} {H H' : Hp} {as : List Addr} {ps : List α} (r : Row f H as ps) (s : Same H H') : Row f H' as ps := ⟨r.1, fun i a p h1 h2 => s _ _ (r.2 i a p h1 h2)⟩
theorem atI_0 {α : Type} {a : α} {xs : List α} : atI (a :: xs) 0 = some a := by
  unfold atI ixN
  rw [if_pos (Int.le_refl 0), if_pos (by simp)]
  rfl
def spInt1 : Sp := fun vs H Q _ => ∃ i : Int, vs = [.int i] ∧ Q (.bl true) H
def spWord1 : Sp := fun vs H Q _ => ∃ x : Str, vs = [.str x] ∧ Word x ∧ ∀ H', Same H H' → Q (.bl true) H'
def spIsName : Sp := fun vs H Q _ => ∃ (x : Str) (d : Addr) (kvs : List (Key × V)), vs = [.str x, .ref d] ∧ H d = some (.dK kvs) ∧ Q (.bl (valV kvs (Sum.inr x)).isSome) H
def spWip : Sp := fun vs H Q _ => ∃ (a e : Addr) (p : Pt) (kvs : List (Key × V)), vs = [.ref a, .ref e] ∧ H a = some (ptV p) ∧ PtOk p ∧ H e = some (.dK kvs) ∧ valV kvs (Sum.inr p.1) = none ∧ ∀ H', Same H H' → Q .non H'
def spWir : Sp := fun vs H Q _ => ∃ (a e : Addr) (r : Rl) (kvs : List (Key × V)), vs = [.ref a, .ref e] ∧ H a = some (rlV r) ∧ H e = some (.dK kvs) ∧ (valV kvs (Sum.inr r.1)).isSome = true ∧ (valV kvs (Sum.inr r.2.1)).isSome = true ∧ ∀ H', Same H H' → Q .non H'
section
variable {P : Program} {w : World} {K : PySem.W.Frag} {mg : Str → Option Value} {base : Heap}
theorem scIsInt : FnScope ["value"] ["value"] (defScope sIsInt) := ⟨rfl, rfl, rfl, by decide +kernel, rfl, by decide +kernel, by decide +kernel⟩
theorem ok_isInt {f : Addr} {fd : FuncData} (F : Fun K "is_integer" "is_integer" sIsInt f fd) (T : Wds mg) : FnOk P w K mg base CX0 1 f fd ["value"] spInt1 := by
  refine F.ok scIsInt (fun vs H Q E h => ?_) (fun cdv A outer s H vs Q E hr h => ?_)
  · obtain ⟨v, rfl, _⟩ := h
    rfl
  · obtain ⟨v, rfl, k⟩ := h
    refine ⟨_, (pss_one (ps_ret (pe_and (pe_callB call_isi (by rfl) T.zisinstance (by decide +kernel) (pa_cons (pv 0) (pa_cons (pe_bltn (v := .ty "int") (by rfl) T.zint (by decide +kernel) rfl) pa_nil))) (pe_one (pe_not (pe_callB call_isi (by rfl) T.zisinstance (by decide +kernel) (pa_cons (pv 0) (pa_cons (pe_bltn (v := .ty "bool") (by rfl) T.zbool (by decide +kernel) rfl) pa_nil)))))))), ?_⟩
    refine ⟨_, rfl, _, .ty "int", _, .type "int", true, rfl, .ty _, .base (.int _), kit_ty (by decide +kernel), true, rfl, iteT ?_⟩
    exact ⟨_, rfl, _, .ty "bool", _, .type "bool", false, rfl, .ty _, .base (.int _), kit_ty (by decide +kernel), false, rfl, k⟩
theorem scIsWord : FnScope ["value", "sign"] ["value"] (defScope sIsWord) := ⟨rfl, rfl, rfl, by decide +kernel, rfl, by decide +kernel, by decide +kernel⟩
theorem ok_isWord {f : Addr} {fd : FuncData} (F : Fun K "is_word" "is_word" sIsWord f fd) (T : Wds mg) : FnOk P w K mg base CX0 1 f fd ["value"] spWord1 := by
  refine F.ok scIsWord (fun vs H Q E h => ?_) (fun cdv A outer s H vs Q E hr h => ?_)
  · obtain ⟨v, rfl, _⟩ := h
    rfl
  · obtain ⟨x, rfl, ok, k⟩ := h
    obtain ⟨t1, hLET⟩ := T.let_
    obtain ⟨t2, hSGN⟩ := T.sgn
    obtain ⟨t3, hLW⟩ := T.lw
    refine ⟨_, (pss_cons (ps_if (PW.pt (pw_or (pt_not (pt_val (pe_callB call_isi (by rfl) T.zisinstance (by decide +kernel) (pa_cons (pv 0) (pa_cons (pe_bltn (v := .ty "str") (by rfl) T.zstr (by decide +kernel) rfl) pa_nil))))) (pw_or1 (pt_not (pt_chain op_le op_le pe_int (pe_callB call_len_str (by rfl) T.zlen (by decide +kernel) (pa_cons (pv 0) pa_nil)) (pe_glob (v := .int 12) (by rfl) hLW ⟨_, rfl⟩)))))) (pss_one (ps_ret pe_bl)) pss_nil)
      (pss_one (ps_ret (pe_and (pe_cmpR op_inS (pe_ix ix_str (pv 0) pe_int (fun _ _ => rfl)) (pe_glob (v := .str LET) (by rfl) hLET ⟨_, rfl⟩) rfl) (pe_one (pe_callB (cr_all (by rfl)) (by rfl) T.zall (by decide +kernel) (pa_cons (pe_lc (own := [("sign", 1)]) (by rfl) scIsWord.nd (pi_str (pv 0)) (blkOk_by (N := ["value", "sign"]) (sc := defScope sIsWord) (by decide +kernel)) (fun _ _ _ _ _ => (pg_name (i := 1) scIsWord.nd rfl (.inl rfl))) (fun _ _ _ _ _ => pts_nil) (fun _ _ _ _ _ => (pe_cmpR op_inS (pv 1) (pe_glob (v := .str SGN) (by rfl) hSGN ⟨_, rfl⟩) rfl))) pa_nil))))))), ?_⟩
    obtain ⟨c, r, e, hc⟩ := ok.hd
    have l1 : x.length = r.length + 1 := by
      show x.cps.size = _
      rw [← Array.length_toList, e]
      rfl
    have l12 := ok.le
    refine ⟨_, rfl, _, .ty "str", _, .type "str", true, rfl, .ty _, .base (.str _), kit_ty (by decide +kernel), true, rfl, iteF ?_⟩
    refine ⟨_, rfl, _, rfl, Nat.le_trans l12 (by decide), _, _, rfl, rfl, _, rfl, ?_⟩
    rw [decide_eq_true (show (1 : Int) ≤ (x.length : Int) by omega)]
    refine iteT ⟨_, _, rfl, rfl, _, rfl, ?_⟩
    rw [decide_eq_true (show (x.length : Int) ≤ 12 by omega)]
    refine iteF ?_
    refine ⟨_, rfl, x, 0, c, rfl, rfl, Nat.le_trans l12 (by decide), by rw [e]; exact atI_0, c, LET, rfl, rfl, true, by rw [decide_eq_true hc], iteT ?_⟩
    refine ⟨_, rfl, x, rfl, fun D nD => ?_⟩
    refine lc_it walk_str (fun i H' => Same H H' ∧ H' D = some (.lst ((List.replicate i true).map V.bl))) ⟨same_new nD, upd_same⟩ (fun _ _ _ _ => True.intro) ?_ ?_
    · rintro i y H1 H2 hi ⟨s1, h1⟩ ⟨rfl, z, hz, rfl⟩
      have mz : z ∈ SGN.cps.toList := ok.sg z (by
        have q := List.mem_of_getElem? (l := x.cps.toList) (i := i) (a := z) (by rw [Array.getElem?_toList]; exact hz)
        exact q)
      refine ⟨rfl, _, rfl, z, SGN, rfl, rfl, ?_⟩
      rw [decide_eq_true mz]
      refine ⟨_, h1, small1000 (by rw [List.length_map, List.length_replicate]; have : x.cps.size ≤ 12 := l12; omega), fun b o q => by rw [upd_ne (ne_of_none q nD)]; exact s1 b o q, ?_⟩
      rw [upd_same, List.replicate_succ', List.map_append]
      rfl
    · rintro H1 ⟨s1, h1⟩
      refine ⟨D, _, rfl, SqL.of h1, ?_⟩
      rw [show (List.replicate x.cps.size true).all id = true by simp]
      exact k H1 s1
end
end K14
namespace K14
open PySem PySem.Spec L2 Rt
open PyProof.Rows hiding St
theorem get_k {H : Hp} {d : Addr} {kvs : List (Key × V)} {x : Str} (h : H d = some (.dK kvs)) : DGet H d (.str x) (valV kvs (Sum.inr x)) := DGet.k (k := Sum.inr x) h
section
variable {P : Program} {w : World} {K : PySem.W.Frag} {mg : Str → Option Value} {base : Heap}
theorem scIsName : FnScope ["value", "names"] ["value", "names"] (defScope sIsName) := ⟨rfl, rfl, rfl, by decide +kernel, rfl, by decide +kernel, by decide +kernel⟩
theorem ok_isName {f : Addr} {fd : FuncData} (F : Fun K "is_name_of" "is_name_of" sIsName f fd) (T : Wds mg) : FnOk P w K mg base CX0 1 f fd ["value", "names"] spIsName := by
  refine F.ok scIsName (fun vs H Q E h => ?_) (fun cdv A outer s H vs Q E hr h => ?_)
  · obtain ⟨x, d, kvs, rfl, _⟩ := h
    rfl
  · obtain ⟨x, d, kvs, rfl, hd, k⟩ := h
    have hu := hu_of hr
    refine ⟨_, (pss_one (ps_ret (pe_and (pe_callB call_isi (by rfl) T.zisinstance (by decide +kernel) (pa_cons (pv 0) (pa_cons (pe_bltn (v := .ty "str") (by rfl) T.zstr (by decide +kernel) rfl) pa_nil))) (pe_one (pe_cmp (pc_din hu (pv 0) (pv 1))))))), ?_⟩
    exact ⟨_, rfl, _, .ty "str", _, .type "str", true, rfl, .ty _, .base (.str _), kit_ty (by decide +kernel), true, rfl, iteT ⟨_, rfl, _, rfl, d, _, rfl, get_k hd, k⟩⟩
theorem scWip : FnScope ["point", "earlier", "name", "first", "step"] ["point", "earlier"] (defScope sWip) := ⟨rfl, rfl, rfl, by decide +kernel, rfl, by decide +kernel, by decide +kernel⟩
theorem ok_wip {f : Addr} {fd : FuncData} (F : Fun K "wrong_in_point" "wrong_in_point" sWip f fd) (T : Wds mg) (isWord : Cf P w K mg base 1 "is_word" spWord1) (isInt : Cf P w K mg base 1 "is_integer" spInt1) : FnOk P w K mg base CX0 2 f fd ["point", "earlier"] spWip := by
  refine F.ok scWip (fun vs H Q E h => ?_) (fun cdv A outer s H vs Q E hr h => ?_)
  · obtain ⟨a, e, p, kvs, rfl, _⟩ := h
    rfl
  · obtain ⟨a, e, p, kvs, rfl, ha, ⟨ok, p1, p2⟩, he, no, k⟩ := h
    obtain ⟨t4, hGS⟩ := T.gs
    have hu := hu_of hr
    have ha : H a = some (.tup [.str p.1, .int p.2.1, .int p.2.2]) := ha
    refine ⟨_, (pss_cons (ps_if (PW.pt (pw_or (pt_not (pt_val (pe_callB call_isi (by rfl) T.zisinstance (by decide +kernel) (pa_cons (pv 0) (pa_cons (pe_bltn (v := .ty "tuple") (by rfl) T.ztuple (by decide +kernel) rfl) pa_nil))))) (pw_or1 (pt_cmpR op_ne (pe_callB call_len_seq (by rfl) T.zlen (by decide +kernel) (pa_cons (pv 0) pa_nil)) pe_int (nomark _))))) (pss_one (ps_ret (pe_tup pa_nil))) pss_nil)
      (pss_cons (ps_asg (pv 0) (pg_tup (by rfl) (pgs_cons (pg_name (i := 2) scWip.nd rfl (.inl rfl)) (pgs_cons (pg_name (i := 3) scWip.nd rfl (.inl rfl)) (pgs_cons (pg_name (i := 4) scWip.nd rfl (.inl rfl)) pgs_nil)))))
      (pss_cons (ps_if (PW.pt (pw_or (pt_not (pt_val (pe_f isWord hr (by decide) (by rfl) (pa_cons (pv 2) pa_nil)))) (pw_or1 (pt_cmp (pc_din hu (pv 2) (pv 1)))))) (pss_one (ps_ret (pe_tup (pa_cons pe_int pa_nil)))) pss_nil)
      (pss_cons (ps_if (pt_not (pt_val (pe_f isInt hr (by decide) (by rfl) (pa_cons (pv 3) pa_nil)))) (pss_one (ps_ret (pe_tup (pa_cons pe_int pa_nil)))) pss_nil)
      (pss_cons (ps_if (PW.pt (pw_or (pt_not (pt_val (pe_f isInt hr (by decide) (by rfl) (pa_cons (pv 4) pa_nil)))) (pw_or1 (pt_not (pt_chain op_le op_le pe_int (pv 4) (pe_glob (v := .int 60) (by rfl) hGS ⟨_, rfl⟩)))))) (pss_one (ps_ret (pe_tup (pa_cons pe_int pa_nil)))) pss_nil)
      (pss_one (ps_ret pe_non))))))), ?_⟩
    refine ⟨_, rfl, _, .ty "tuple", _, .type "tuple", true, rfl, .ty _, .base (.tup ha), kit_ty (by decide +kernel), true, rfl, iteF ?_⟩
    refine ⟨_, rfl, a, _, rfl, .inr (SqT.of ha), rfl, false, rfl, iteF ?_⟩
    refine ⟨_, rfl, a, _, rfl, SqT.of ha, rfl, _, _, rfl, _, _, rfl, _, _, rfl, rfl, ?_⟩
    refine ⟨_, rfl, p.1, rfl, ok, fun H1 s1 => ⟨true, rfl, iteF ?_⟩⟩
    refine ⟨_, rfl, _, rfl, e, _, rfl, get_k (s1 _ _ he), _, rfl, ?_⟩
    rw [no]
    refine iteF ?_
    refine ⟨_, rfl, _, rfl, true, rfl, iteF ?_⟩
    refine ⟨_, rfl, _, rfl, true, rfl, iteF ?_⟩
    refine ⟨_, rfl, _, _, rfl, rfl, _, rfl, ?_⟩
    rw [decide_eq_true p1]
    refine iteT ⟨_, _, rfl, rfl, _, rfl, ?_⟩
    rw [decide_eq_true p2]
    refine iteF ?_
    exact k H1 s1
theorem scWir : FnScope ["rule", "names", "start", "end", "least"] ["rule", "names"] (defScope sWir) := ⟨rfl, rfl, rfl, by decide +kernel, rfl, by decide +kernel, by decide +kernel⟩
theorem ok_wir {f : Addr} {fd : FuncData} (F : Fun K "wrong_in_rule" "wrong_in_rule" sWir f fd) (T : Wds mg) (isName : Cf P w K mg base 1 "is_name_of" spIsName) (isInt : Cf P w K mg base 1 "is_integer" spInt1) : FnOk P w K mg base CX0 2 f fd ["rule", "names"] spWir := by
  refine F.ok scWir (fun vs H Q E h => ?_) (fun cdv A outer s H vs Q E hr h => ?_)
  · obtain ⟨a, e, r, kvs, rfl, _⟩ := h
    rfl
  · obtain ⟨a, e, r, kvs, rfl, ha, he, i1, i2, k⟩ := h
    have ha : H a = some (.tup [.str r.1, .str r.2.1, .int r.2.2]) := ha
    refine ⟨_, (pss_cons (ps_if (PW.pt (pw_or (pt_not (pt_val (pe_callB call_isi (by rfl) T.zisinstance (by decide +kernel) (pa_cons (pv 0) (pa_cons (pe_bltn (v := .ty "tuple") (by rfl) T.ztuple (by decide +kernel) rfl) pa_nil))))) (pw_or1 (pt_cmpR op_ne (pe_callB call_len_seq (by rfl) T.zlen (by decide +kernel) (pa_cons (pv 0) pa_nil)) pe_int (nomark _))))) (pss_one (ps_ret (pe_tup pa_nil))) pss_nil)
      (pss_cons (ps_asg (pv 0) (pg_tup (by rfl) (pgs_cons (pg_name (i := 2) scWir.nd rfl (.inl rfl)) (pgs_cons (pg_name (i := 3) scWir.nd rfl (.inl rfl)) (pgs_cons (pg_name (i := 4) scWir.nd rfl (.inl rfl)) pgs_nil)))))
      (pss_cons (ps_if (pt_not (pt_val (pe_f isName hr (by decide) (by rfl) (pa_cons (pv 2) (pa_cons (pv 1) pa_nil))))) (pss_one (ps_ret (pe_tup (pa_cons pe_int pa_nil)))) pss_nil)
      (pss_cons (ps_if (pt_not (pt_val (pe_f isName hr (by decide) (by rfl) (pa_cons (pv 3) (pa_cons (pv 1) pa_nil))))) (pss_one (ps_ret (pe_tup (pa_cons pe_int pa_nil)))) pss_nil)
      (pss_cons (ps_if (pt_not (pt_val (pe_f isInt hr (by decide) (by rfl) (pa_cons (pv 4) pa_nil)))) (pss_one (ps_ret (pe_tup (pa_cons pe_int pa_nil)))) pss_nil)
      (pss_one (ps_ret pe_non))))))), ?_⟩
    refine ⟨_, rfl, _, .ty "tuple", _, .type "tuple", true, rfl, .ty _, .base (.tup ha), kit_ty (by decide +kernel), true, rfl, iteF ?_⟩
    refine ⟨_, rfl, a, _, rfl, .inr (SqT.of ha), rfl, false, rfl, iteF ?_⟩
    refine ⟨_, rfl, a, _, rfl, SqT.of ha, rfl, _, _, rfl, _, _, rfl, _, _, rfl, rfl, ?_⟩
    refine ⟨_, rfl, _, rfl, _, e, kvs, rfl, he, true, by rw [i1], iteF ?_⟩
    refine ⟨_, rfl, _, rfl, _, e, kvs, rfl, he, true, by rw [i2], iteF ?_⟩
    refine ⟨_, rfl, _, rfl, true, rfl, iteF ?_⟩
    exact k H (Same.refl H)
/-- the names in order, each with its place -/
def placesK (ns : List Str) : List (Key × V) := (ns.zipIdx).map fun x => (Sum.inr x.1, V.int x.2)
def spWips : Sp := fun vs H Q _ => ∃ (p : Addr) (as : List Addr) (ps : List Pt), vs = [.ref p] ∧ H p = some (.lst (as.map V.ref)) ∧ Row ptV H as ps ∧ (∀ x, x ∈ ps → PtOk x) ∧ (ps.map (·.1)).Nodup ∧ ps.length ≤ 100 ∧ ∀ H', Same H H' → Q .non H'
def spWirs : Sp := fun vs H Q _ => ∃ (p e : Addr) (as : List Addr) (rs : List Rl) (kvs : List (Key × V)), vs = [.ref p, .ref e] ∧ H p = some (.lst (as.map V.ref)) ∧ Row rlV H as rs ∧ H e = some (.dK kvs) ∧
  (∀ r, r ∈ rs → (valV kvs (Sum.inr r.1)).isSome = true ∧ (valV kvs (Sum.inr r.2.1)).isSome = true) ∧ ∀ H', Same H H' → Q .non H'
theorem kitLT {K : PySem.W.Frag} {t : Value} (h : t = .type "list" ∨ t = .type "tuple") : PySem.W.kitAny K t [.type "list", .type "tuple"] = some true := by
  rcases h with rfl | rfl
  · exact kitAny_cons (b := true) (kit_ty (by decide +kernel)) (fun z => nomatch z) (fun _ => rfl)
  · exact kitAny_cons (b := false) (kit_ty (by decide +kernel)) (fun _ => kitAny_cons (b := true) (kit_ty (by decide +kernel)) (fun z => nomatch z) (fun _ => rfl)) (fun z => nomatch z)
theorem nodup_at {ps : List Pt} {i : Nat} (nd : (ps.map (·.1)).Nodup) (h : i < ps.length) : ps[i].1 ∉ (ps.take i).map (·.1) := by
  intro m
  obtain ⟨j, hj, e⟩ := List.getElem_of_mem m
  rw [List.length_map, List.length_take] at hj
  rw [List.getElem_map, List.getElem_take] at e
  have q := List.pairwise_iff_getElem.mp nd j i (by rw [List.length_map]; omega) (by rw [List.length_map]; exact h) (by omega)
  rw [List.getElem_map, List.getElem_map] at q
  exact q e
theorem scWips : FnScope ["points", "earlier", "k", "point", "wrong"] ["points"] (defScope sWips) := ⟨rfl, rfl, rfl, by decide +kernel, rfl, by decide +kernel, by decide +kernel⟩
theorem ok_wips {f : Addr} {fd : FuncData} (F : Fun K "wrong_in_points" "wrong_in_points" sWips f fd) (T : Wds mg) (wip : Cf P w K mg base 2 "wrong_in_point" spWip) : FnOk P w K mg base CX0 3 f fd ["points"] spWips := by
  refine F.ok scWips (fun vs H Q E h => ?_) (fun cdv A outer s H vs Q E hr h => ?_)
  · obtain ⟨p, as, ps, rfl, _⟩ := h
    rfl
  · obtain ⟨p, as, ps, rfl, hp, row, oks, nod, few, k⟩ := h
    have hu := hu_of hr
    refine ⟨_, (pss_cons (ps_if (pt_not (pt_val (pe_callB call_isiT (by rfl) T.zisinstance (by decide +kernel) (pa_cons (pv 0) (pa_cons (pe_tup (pa_cons (pe_bltn (v := .ty "list") (by rfl) T.zlist (by decide +kernel) rfl) (pa_cons (pe_bltn (v := .ty "tuple") (by rfl) T.ztuple (by decide +kernel) rfl) pa_nil))) pa_nil))))) (pss_one (ps_ret (pe_tup (pa_cons pe_int pa_nil)))) pss_nil)
      (pss_cons (ps_set (i := 1) scWips.nd rfl (.inl rfl) pe_dnewK)
      (pss_cons (ps_for PassesOwn.never rfl (pi_enum (by rfl) T.zenumerate (pa_cons (pv 0) pa_nil)) (pg_tup (by rfl) (pgs_cons (pg_name (i := 2) scWips.nd rfl (.inl rfl)) (pgs_cons (pg_name (i := 3) scWips.nd rfl (.inl rfl)) pgs_nil)))
        (pss_cons (ps_set (i := 4) scWips.nd rfl (.inl rfl) (pe_f wip hr (by decide) (by rfl) (pa_cons (pv 3) (pa_cons (pv 1) pa_nil))))
        (pss_cons (ps_if (pt_cmpR op_notN (pv 4) pe_non (nomark _)) (pss_one (ps_ret (pe_op op_add (pe_tup (pa_cons pe_int (pa_cons (pv 2) pa_nil))) (pv 4)))) pss_nil)
        (pss_one (ps_dput hu (pv 1) (pe_ix ix_tup (pv 3) pe_int (fun _ _ => rfl)) pe_bl rfl)))))
      (pss_one (ps_ret pe_non))))), ?_⟩
    refine ⟨_, rfl, (by show 2 ≤ sizeLine; decide), fun tp nt => ?_⟩
    have s1 := same_new (o := .tup [.ty "list", .ty "tuple"]) nt
    refine ⟨_, tp, _, .type "list", _, true, rfl, upd_same, .cons (.ty _) (.cons (.ty _) .nil), .base (.lst (s1 _ _ hp)), kitLT (.inl rfl), true, rfl, iteF ?_⟩
    intro d nd
    have s2 := s1.trans (same_new (o := .dK []) nd)
    refine ⟨_, rfl, p, _, rfl, SqL.of (s2 _ _ hp), ?_⟩
    refine for_it walk_enum (fun i σ H2 => ∃ (v2 v3 v4 : Option V) (kvs : List (Key × V)), σ = [some (.ref p), some (.ref d), v2, v3, v4] ∧ Same H H2 ∧ H2 d = some (.dK kvs) ∧ kvs.length ≤ i ∧ ∀ x, valV kvs (Sum.inr x) ≠ none → x ∈ (ps.take i).map (·.1))
      ⟨_, _, _, [], rfl, s2, upd_same, Nat.le_refl _, fun x z => absurd rfl z⟩ (fun i σ H2 _ ⟨_, _, _, _, _, s3, _⟩ => SqL.of (s3 _ _ hp)) ?_ ?_
    · rintro i y σ H2 H3 hi ⟨v2, v3, v4, kvs, rfl, s3, hd, le, inn⟩ ⟨t, x1, x2, rfl, ht, rfl, h1, h2⟩
      obtain rfl : V.int (i : Nat) = x1 := Option.some.inj h1
      have hi' : i < as.length := by rw [List.length_map] at hi; exact hi
      have hip : i < ps.length := by rw [← row.1]; exact hi'
      obtain rfl : V.ref as[i] = x2 := by
        have h2 : (as.map V.ref)[i]? = some x2 := h2
        rw [List.getElem?_map, List.getElem?_eq_getElem hi'] at h2
        exact Option.some.inj h2
      have pa : H as[i] = some (ptV ps[i]) := row.2 i _ _ (List.getElem?_eq_getElem hi') (List.getElem?_eq_getElem hip)
      have s4 : Same H (upd H2 t (.tup [.int (i : Nat), .ref as[i]])) := s3.trans (same_new ht)
      have hd4 : (upd H2 t (.tup [.int (i : Nat), .ref as[i]])) d = some (.dK kvs) := by
        rw [upd_ne (ne_of_none hd ht)]
        exact hd
      refine ⟨t, _, rfl, SqT.of upd_same, rfl, _, _, rfl, _, _, rfl, rfl, ?_⟩
      have no : valV kvs (Sum.inr ps[i].1) = none := by
        cases e : valV kvs (Sum.inr ps[i].1) with
        | none => rfl
        | some z => exact absurd (inn ps[i].1 (by rw [e]; simp)) (nodup_at nod hip)
      refine ⟨_, rfl, _, rfl, as[i], d, ps[i], kvs, rfl, s4 _ _ pa, oks _ (List.getElem_mem hip), hd4, no, fun H5 s5 => ?_⟩
      refine ⟨_, rfl, rfl, false, rfl, iteF ?_⟩
      have pa5 : H5 as[i] = some (.tup [.str ps[i].1, .int ps[i].2.1, .int ps[i].2.2]) := s5 _ _ (s4 _ _ pa)
      have nd0 : H d = none := s1.free nd
      refine ⟨_, rfl, _, rfl, as[i], _, 0, _, rfl, rfl, SqT.of pa5, rfl, d, _, rfl, DPut.k (k := Sum.inr ps[i].1) (s5 _ _ hd4) (small1000 (by omega)), ?_⟩
      refine ⟨_, _, _, _, rfl, fun b o q => by rw [upd_ne (ne_of_none q nd0)]; exact (s4.trans s5) b o q, upd_same, Nat.le_trans (length_putK _ _ _) (Nat.succ_le_succ le), fun x hx => ?_⟩
      rw [valV_put] at hx
      rw [List.take_succ, List.getElem?_eq_getElem hip, List.map_append]
      by_cases e : (Sum.inr x : Key) = Sum.inr ps[i].1
      · rw [Sum.inr.inj e]
        exact List.mem_append.mpr (.inr (by simp))
      · rw [if_neg e] at hx
        exact List.mem_append.mpr (.inl (inn x hx))
    · rintro σ H2 ⟨v2, v3, v4, kvs, rfl, s3, hd, le, inn⟩
      exact k H2 s3
theorem scWirs : FnScope ["rules", "names", "k", "rule", "wrong"] ["rules", "names"] (defScope sWirs) := ⟨rfl, rfl, rfl, by decide +kernel, rfl, by decide +kernel, by decide +kernel⟩
theorem ok_wirs {f : Addr} {fd : FuncData} (F : Fun K "wrong_in_rules" "wrong_in_rules" sWirs f fd) (T : Wds mg) (wir : Cf P w K mg base 2 "wrong_in_rule" spWir) : FnOk P w K mg base CX0 3 f fd ["rules", "names"] spWirs := by
  refine F.ok scWirs (fun vs H Q E h => ?_) (fun cdv A outer s H vs Q E hr h => ?_)
  · obtain ⟨p, e, as, rs, kvs, rfl, _⟩ := h
    rfl
  · obtain ⟨p, e, as, rs, kvs, rfl, hp, row, he, oks, k⟩ := h
    refine ⟨_, (pss_cons (ps_if (pt_not (pt_val (pe_callB call_isiT (by rfl) T.zisinstance (by decide +kernel) (pa_cons (pv 0) (pa_cons (pe_tup (pa_cons (pe_bltn (v := .ty "list") (by rfl) T.zlist (by decide +kernel) rfl) (pa_cons (pe_bltn (v := .ty "tuple") (by rfl) T.ztuple (by decide +kernel) rfl) pa_nil))) pa_nil))))) (pss_one (ps_ret (pe_tup (pa_cons pe_int pa_nil)))) pss_nil)
      (pss_cons (ps_for PassesOwn.never rfl (pi_enum (by rfl) T.zenumerate (pa_cons (pv 0) pa_nil)) (pg_tup (by rfl) (pgs_cons (pg_name (i := 2) scWirs.nd rfl (.inl rfl)) (pgs_cons (pg_name (i := 3) scWirs.nd rfl (.inl rfl)) pgs_nil)))
        (pss_cons (ps_set (i := 4) scWirs.nd rfl (.inl rfl) (pe_f wir hr (by decide) (by rfl) (pa_cons (pv 3) (pa_cons (pv 1) pa_nil))))
        (pss_one (ps_if (pt_cmpR op_notN (pv 4) pe_non (nomark _)) (pss_one (ps_ret (pe_op op_add (pe_tup (pa_cons pe_int (pa_cons (pv 2) pa_nil))) (pv 4)))) pss_nil))))
      (pss_one (ps_ret pe_non)))), ?_⟩
    refine ⟨_, rfl, (by show 2 ≤ sizeLine; decide), fun tp nt => ?_⟩
    have s1 := same_new (o := .tup [.ty "list", .ty "tuple"]) nt
    refine ⟨_, tp, _, .type "list", _, true, rfl, upd_same, .cons (.ty _) (.cons (.ty _) .nil), .base (.lst (s1 _ _ hp)), kitLT (.inl rfl), true, rfl, iteF ?_⟩
    refine ⟨_, rfl, p, _, rfl, SqL.of (s1 _ _ hp), ?_⟩
    refine for_it walk_enum (fun i σ H2 => ∃ (v2 v3 v4 : Option V), σ = [some (.ref p), some (.ref e), v2, v3, v4] ∧ Same H H2)
      ⟨_, _, _, rfl, s1⟩ (fun i σ H2 _ ⟨_, _, _, _, s3⟩ => SqL.of (s3 _ _ hp)) ?_ ?_
    · rintro i y σ H2 H3 hi ⟨v2, v3, v4, rfl, s3⟩ ⟨t, x1, x2, rfl, ht, rfl, h1, h2⟩
      obtain rfl : V.int (i : Nat) = x1 := Option.some.inj h1
      have hi' : i < as.length := by rw [List.length_map] at hi; exact hi
      have hip : i < rs.length := by rw [← row.1]; exact hi'
      obtain rfl : V.ref as[i] = x2 := by
        have h2 : (as.map V.ref)[i]? = some x2 := h2
        rw [List.getElem?_map, List.getElem?_eq_getElem hi'] at h2
        exact Option.some.inj h2
      have pa : H as[i] = some (rlV rs[i]) := row.2 i _ _ (List.getElem?_eq_getElem hi') (List.getElem?_eq_getElem hip)
      have s4 : Same H (upd H2 t (.tup [.int (i : Nat), .ref as[i]])) := s3.trans (same_new ht)
      obtain ⟨i1, i2⟩ := oks _ (List.getElem_mem hip)
      refine ⟨t, _, rfl, SqT.of upd_same, rfl, _, _, rfl, _, _, rfl, rfl, ?_⟩
      refine ⟨_, rfl, _, rfl, as[i], e, rs[i], kvs, rfl, s4 _ _ pa, s4 _ _ he, i1, i2, fun H5 s5 => ?_⟩
      exact ⟨_, rfl, rfl, false, rfl, iteF ⟨_, _, _, rfl, s4.trans s5⟩⟩
    · rintro σ H2 ⟨v2, v3, v4, rfl, s3⟩
      exact k H2 s3

end
end K14
namespace Rt
open PySem PySem.Spec L2
open PyProof.Rows hiding St
/-! ### a dict comprehension over any walk -/
section
variable {J : It} {n : Nat} {G : Hp → Prop} {Y : Nat → Hp → V → Hp → Prop}
theorem dc_it (wk : Walk J n G Y) {g : TG} {tt : TT} {tk tv : TE} {vs : List Nat} {σ : L2.St} {H1 : Hp} {D : Addr} {Qd : Hp → Prop} (Pv : Nat → Hp → Prop) (start : Pv 0 (upd H1 D (.dK []))) (good : ∀ i H, i ≤ n → Pv i H → G H)
    (turn : ∀ i x H H', i < n → Pv i H → Y i H x H' → g x (wipe σ vs) H' fun σ2 H2 => wipe σ2 vs = wipe σ vs ∧ tt σ2 H2 fun b H3 =>
      if b = true then tk σ2 H3 fun y H4 => tv σ2 H4 fun z H5 => ∃ kvs k, y = kV k ∧ H5 D = some (.dK kvs) ∧ kvs.length < sizeLine ∧ Pv (i + 1) (upd H5 D (.dK (putK kvs k z))) else Pv (i + 1) H3) (fin : ∀ H, Pv n H → Qd H) :
    ∃ W : Nat → Nat → Hp → Prop, (∃ m, W 0 m (upd H1 D (.dK []))) ∧ ∀ i m H, W i m H →
      (J.stop i H ∧ Qd H) ∨ (J.go i H ∧ ∃ Nx : Hp → Prop, (∀ H', Nx H' → ∃ m', m' < m ∧ W (i + 1) m' H') ∧ ∀ x H', J.yld i H x H' → g x (wipe σ vs) H' fun σ2 H2 => wipe σ2 vs = wipe σ vs ∧ tt σ2 H2 fun b H3 =>
        if b = true then tk σ2 H3 fun y H4 => tv σ2 H4 fun z H5 => ∃ kvs k, y = kV k ∧ H5 D = some (.dK kvs) ∧ kvs.length < sizeLine ∧ Nx (upd H5 D (.dK (putK kvs k z))) else Nx H3) := by
  refine ⟨fun i m H => m + i = n ∧ Pv i H, ⟨n, rfl, start⟩, fun i m H ⟨e, p⟩ => ?_⟩
  have q := good i H (by omega) p
  rcases Nat.lt_or_ge i n with lt | ge
  · exact .inr ⟨wk.goes i H lt q, Pv (i + 1), fun H' p' => ⟨m - 1, by omega, by omega, p'⟩, fun x H' y => turn i x H H' lt p (wk.yields i H x H' lt q y)⟩
  · obtain rfl : i = n := by omega
    exact .inl ⟨wk.stops H q, fin H p⟩
end
/-! ### a tuple as a target within a comprehension -/
theorem pg_tk {X : Cx} {K : PySem.W.Frag} {es : List Expr} {k n : Nat} {t : TGs} {pos : Pos} (hK : X.K = K) (hc : X.calm = true) (h : PGs X es t) (hn : (assignEach es X.env).length = n) (hst : (assignEach es X.env).findIdx? (·.1) = none) : PG X (.Tuple es k pos) (gTup K n t) := by
  subst hK
  exact pg_tup hc h hn hst
/-! ### tuple(..) within a comprehension -/
def rTup (K : PySem.W.Frag) : List V → Hp → VK → Prop := fun vs H Q =>
  ∃ (b : Addr) (us : List V), vs = [.ref b] ∧ ((SqL K H b us ∧ ∀ n, H n = none → Q (.ref n) (upd H n (.tup us))) ∨ (SqT K H b us ∧ Q (.ref b) H))
theorem call_tupK {X : Cx} {K : PySem.W.Frag} (hK : X.K = K) : CallR X (.type "tuple") (rTup K) := by
  subst hK
  exact call_tuple_of
/-! ### name = {..: .. for ..} on one line -/
theorem sw_dict {a b : Expr} {gs : List Comprehension} {sc : Scope} {q qn : Pos} {n : Str} {line : Nat} {env : Env} (kind : env.scope.kind = .function) (loc : env.scope.names.lookup n = some .local) (same : (qn.line == q.line) = true)
    (other : (sc.names.any fun (m, k) => m == n && (k == .local || k == .cell)) = false) : swapsWith (.DictComp a b gs sc q) (some (.Name n qn)) line env = pure true := by
  have e1 : env.kindOf n = some .local := loc
  have e2 : env.blockKind = .function := by
    show env.blockKind = _
    unfold Env.blockKind
    rw [kind]
    rfl
  simp only [swapsWith, e1, e2, other, Expr.pos, same]
  rfl
theorem ps_setDc {X : Cx} {i : Nat} {n : Str} {qn q qs : Pos} {ke ve tg it : Expr} {cs : List Expr} {sc : Scope} {own : List (Str × Nat)} {wi : TI} {g : TG} {tt : TT} {tk tv : TE} (cm : X.calm = true) (nd : X.N.Nodup) (at_ : X.N[i]? = some n)
    (loc : X.env.scope.names.lookup n = some .local) (sw : swapsWith (.DictComp ke ve [⟨tg, it, cs, 0⟩] sc q) (some (.Name n qn)) qs.line X.env = pure true) (pi : PI X tg it wi) (bo : BlkOk X.N X.env.scope sc own)
    (pg : ∀ (s : Shared) (H : Hp) (C : Addr) (cl : List (Str × Addr)) (fp : List Addr), PG (X.blk s H sc (compEnvC sc cl C X.env) fp) tg g) (pt : ∀ (s : Shared) (H : Hp) (C : Addr) (cl : List (Str × Addr)) (fp : List Addr), PTs (X.blk s H sc (compEnvC sc cl C X.env) fp) cs tt)
    (pk : ∀ (s : Shared) (H : Hp) (C : Addr) (cl : List (Str × Addr)) (fp : List Addr), PE (X.blk s H sc (compEnvC sc cl C X.env) fp) ke tk)
    (pv : ∀ (s : Shared) (H : Hp) (C : Addr) (cl : List (Str × Addr)) (fp : List Addr), PE (X.blk s H sc (compEnvC sc cl C X.env) fp) ve tv) (fo : ∀ x, foldedSetIterable it X.env x = pure x := by intro _; rfl) :
    PS X (.Assign [.Name n qn] (.DictComp ke ve [⟨tg, it, cs, 0⟩] sc q) qs) (tAsg (tDc wi g tt tk tv (own.map (·.2))) (gName i)) := by
  constructor
  intro pins s σ H D I want
  rw [exec_Assign_Name_used _ _ _ _ sw]
  refine wpAny_bind (wpAny_standAt ?_)
  refine wpAny_bind ?_
  show wpAny _ X.A (do
    let _ ← comprehension (.DictComp ke ve [⟨tg, it, cs, 0⟩] sc q) sc X.env (firstIterPos [⟨tg, it, cs, 0⟩] q) newDict false (eval it X.env) (some (assign (.Name n qn) X.env))) _ _ s
  have want' : tDc wi g tt tk tv (own.map (·.2)) σ H (fun x H1 => gName i x σ H1 D.nx) := want
  refine wpAny_bind (thn (dc_core (Qf := fun _ z => SP X pins D .next z) cm nd I pi bo pg pt pk pv fo want' ?_) fun _ z y => wpAny_pure (wpAny_pure y))
  intro L C t m H' J now hn f
  show wpAny _ _ (assign (.Name n qn) X.env (.ref L)) _ _ _
  refine wpAny_assign_Name (store_ok2 (v := V.ref L) J nd at_ (.inl loc) rfl ?_ (.inr loc))
  intro u J2 ⟨b, only, hb⟩
  obtain ⟨f0, f1, f2, f3, f4, f5⟩ := f
  have away : C ≠ b := by
    rcases hb with z | z
    · exact z ▸ f1
    · exact fun e => f4 n b z e.symm
  refine ⟨m, hn.sameBut only away, fun h3 only3 => ⟨_, H', ?_, now⟩⟩
  exact J2.turned (t' := u.toks) (fun c o hc e => (only3.2 c hc).trans e) f0 f1 f3 f4 f5
/-! ### methods and makers that may be called under any guards -/
structure Md (P : Program) (w : World) (K : PySem.W.Frag) (mg : Str → Option Value) (base : Heap) (k : Nat) (C : Addr) (m : Str) (sp : Sp) : Prop where
  ex : ∃ (f : Addr) (fd : FuncData) (ps : List Str), Meth K C m f ∧ FnOk P w K mg base CX0 k f fd ps sp ∧ Binds K fd ps []
structure Mkr (P : Program) (w : World) (K : PySem.W.Frag) (mg : Str → Option Value) (base : Heap) (k : Nat) (C : Addr) (x : Str) (sp : Sp) : Prop where
  ex : ∃ (f : Addr) (fd : FuncData) (ps : List Str), L2.Mk K C f ∧ mg x = some (.ref C) ∧ FnOk P w K mg base CX0 k f fd ps sp ∧ Binds K fd ps []
section
variable {X : Cx} {k j : Nat} {C : Addr} {m x : Str} {sp : Sp} {p pos apos : Pos} {o e : Expr} {es : List Expr} {ta : TE} {t : TA}
theorem pe_m {pl : Sem Bool} (c : Cls X.K C) (M : Md X.prog X.w X.K X.mg X.base k C m sp) (hr : Room j X.A) (hk : k ≤ j) (he : PE X o ta) (ha : PA X (e :: es) t)
    (hst : starEach (e :: es) X.env = (false, eval e X.env) :: starEach es X.env := by rfl) (hpl : (backTo pos (starEach es X.env)).any (·.1) = false := by rfl)
    (ht : eval (.Call (.Attribute o m apos) (e :: es) [] pos) X.env = (do
      let ov ← eval o X.env
      standAt apos.atName
      let (f, first) ← holding [ov] (getMethod ov m pl)
      callWith pos f first (backTo pos (starEach (e :: es) X.env)) (backToKw pos (keywordEach [] X.env))) := by rfl) :
    PE X (.Call (.Attribute o m apos) (e :: es) [] pos) (tMeth C m sp [] E0 ta t) := by
  obtain ⟨f, fd, ps, hm, F, b⟩ := M.ex
  exact pe_meth he c hm F (hr.mono hk) b .nil (fun _ _ _ _ _ _ _ z => z.elim) ha hst hpl ht
theorem pe_m0' {pl : Sem Bool} (c : Cls X.K C) (M : Md X.prog X.w X.K X.mg X.base k C m sp) (hr : Room j X.A) (hk : k ≤ j) (he : PE X o ta)
    (ht : eval (.Call (.Attribute o m apos) [] [] pos) X.env = (do
      let ov ← eval o X.env
      standAt apos.atName
      let (f, first) ← holding [ov] (getMethod ov m pl)
      callWith pos f first (backTo pos (starEach [] X.env)) (backToKw pos (keywordEach [] X.env))) := by rfl) :
    PE X (.Call (.Attribute o m apos) [] [] pos) (tMeth C m sp [] E0 ta tNil) := by
  obtain ⟨f, fd, ps, hm, F, b⟩ := M.ex
  exact pe_meth0 he c hm F (hr.mono hk) b .nil (fun _ _ _ _ _ _ _ z => z.elim) ht
theorem pe_mkr (M : Mkr X.prog X.w X.K X.mg X.base k C x sp) (hr : Room j X.A) (hk : k + 1 ≤ j) (hg : Gl X x) (ha : PA X (e :: es) t)
    (hdb : (x == ("__debug__" : Str)) = false := by decide) (he : starEach (e :: es) X.env = (false, eval e X.env) :: starEach es X.env := by rfl) (hpl : (backTo pos (starEach es X.env)).any (·.1) = false := by rfl) :
    PE X (.Call (.Name x p) (e :: es) [] pos) (tMake C sp [] E0 t) := by
  obtain ⟨f, fd, ps, mk, hm, F, b⟩ := M.ex
  exact pe_make mk F (hr.mono hk) hg hm b .nil (fun _ _ _ _ _ _ _ z => z.elim) ha hdb he hpl
end
end Rt
namespace K14
open PySem PySem.Spec L2 Rt
open PyProof.Rows hiding St
abbrev sNet (j : Nat) : Stmt := inClass (top 23) j
abbrev sInit : Stmt := inClass (top 23) 0
/-! ### places -/
def placesFrom : Nat → List Str → List (Key × V)
  | _, [] => []
  | k, x :: r => (Sum.inr x, V.int (k : Nat)) :: placesFrom (k + 1) r
theorem places_len : ∀ (l : List Str) (k : Nat), (placesFrom k l).length = l.length
  | [], _ => rfl
  | _ :: l, k => congrArg (· + 1) (places_len l (k + 1))
theorem places_app (x : Str) : ∀ (l : List Str) (k : Nat), placesFrom k (l ++ [x]) = placesFrom k l ++ [(Sum.inr x, V.int ((k + l.length : Nat) : Int))]
  | [], k => rfl
  | y :: l, k => by
    show _ :: placesFrom (k + 1) (l ++ [x]) = _
    rw [places_app x l (k + 1)]
    show _ = (Sum.inr y, V.int (k : Nat)) :: (placesFrom (k + 1) l ++ [(Sum.inr x, V.int ((k + (l.length + 1) : Nat) : Int))])
    rw [show k + 1 + l.length = k + (l.length + 1) by omega]
theorem places_no {x : Str} : ∀ (l : List Str) (k : Nat), x ∉ l → valV (placesFrom k l) (Sum.inr x) = none
  | [], _, _ => rfl
  | y :: l, k, h => by
    show valV ((Sum.inr y, V.int (k : Nat)) :: placesFrom (k + 1) l) _ = _
    rw [valV_neg (fun e => h (by cases e; exact List.mem_cons_self))]
    exact places_no l (k + 1) fun m => h (List.mem_cons_of_mem _ m)
theorem places_at : ∀ (l : List Str) (k i : Nat) (h : i < l.length), l.Nodup → valV (placesFrom k l) (Sum.inr l[i]) = some (V.int ((k + i : Nat) : Int))
  | [], _, _, h, _ => absurd h (by simp)
  | y :: l, k, 0, _, _ => by
    show valV ((Sum.inr y, V.int (k : Nat)) :: placesFrom (k + 1) l) (Sum.inr y) = _
    rw [valV_pos rfl]
    rfl
  | y :: l, k, i + 1, h, nd => by
    have nd' := List.nodup_cons.mp nd
    have hi : i < l.length := Nat.lt_of_succ_lt_succ h
    show valV ((Sum.inr y, V.int (k : Nat)) :: placesFrom (k + 1) l) (Sum.inr l[i]) = _
    rw [valV_neg (fun e => nd'.1 (by cases e; exact List.getElem_mem hi)), places_at l (k + 1) i hi nd'.2]
    rw [show k + 1 + i = k + (i + 1) by omega]
theorem places_some {l : List Str} {x : Str} (nd : l.Nodup) (m : x ∈ l) : (valV (placesFrom 0 l) (Sum.inr x)).isSome = true := by
  obtain ⟨i, hi, e⟩ := List.getElem_of_mem m
  rw [← e, places_at l 0 i hi nd]
  rfl
/-! ### what a network is -/
abbrev namesOf (ps : List Pt) : List Str := ps.map (·.1)
structure Good (ps : List Pt) (rs : List Rl) : Prop where
  ok : ∀ x, x ∈ ps → PtOk x
  nd : (namesOf ps).Nodup
  few : ps.length ≤ 100
  ends : ∀ r, r ∈ rs → r.1 ∈ namesOf ps ∧ r.2.1 ∈ namesOf ps
  fewR : rs.length ≤ 1000
structure NetAt (H : Hp) (C a : Addr) (ps : List Pt) (rs : List Rl) : Prop where
  ex : ∃ (dx PA RA DA : Addr) (as bs : List Addr), H a = some (.ins C dx [("_points", .ref PA), ("_rules", .ref RA), ("_places", .ref DA)]) ∧ H PA = some (.tup (as.map V.ref)) ∧ H RA = some (.tup (bs.map V.ref)) ∧
    H DA = some (.dK (placesFrom 0 (namesOf ps))) ∧ Row ptV H as ps ∧ Row rlV H bs rs
theorem NetAt.same {H H' : Hp} {C a : Addr} {ps : List Pt} {rs : List Rl} (h : NetAt H C a ps rs) (s : Same H H') : NetAt H' C a ps rs := by
  obtain ⟨dx, PA, RA, DA, as, bs, h1, h2, h3, h4, h5, h6⟩ := h.ex
  exact ⟨dx, PA, RA, DA, as, bs, s _ _ h1, s _ _ h2, s _ _ h3, s _ _ h4, h5.same s, h6.same s⟩
def Sbut (a : Addr) (H H' : Hp) : Prop := ∀ b o, H b = some o → b ≠ a → H' b = some o
theorem Sbut.refl {a : Addr} {H : Hp} : Sbut a H H := fun _ _ e _ => e
theorem Sbut.trans {a : Addr} {H H1 H2 : Hp} (x : Sbut a H H1) (y : Sbut a H1 H2) : Sbut a H H2 := fun b o e n => y b o (x b o e n) n
theorem Sbut.of {a : Addr} {H H' : Hp} (s : Same H H') : Sbut a H H' := fun b o e _ => s b o e
theorem Sbut.put {a : Addr} {o : HO} {H : Hp} : Sbut a H (upd H a o) := fun b u e n => by
  rw [upd_ne n]
  exact e
theorem Row.but {α : Type} {f : α → HO} {a : Addr} {H H' : Hp} {as : List Addr} {ps : List α} (r : Row f H as ps) (s : Sbut a H H') (n : a ∉ as) : Row f H' as ps :=
  ⟨r.1, fun i b p h1 h2 => s _ _ (r.2 i b p h1 h2) fun e => n (e ▸ List.mem_of_getElem? h1)⟩
theorem row_not {α : Type} {f : α → HO} {a : Addr} {o : HO} {H : Hp} {as : List Addr} {ps : List α} (r : Row f H as ps) (h : H a = some o) (d : ∀ p, o ≠ f p) : a ∉ as := fun m => by
  obtain ⟨i, hi, e⟩ := List.getElem_of_mem m
  have hp : i < ps.length := by rw [← r.1]; exact hi
  have q := r.2 i a ps[i] (by rw [List.getElem?_eq_getElem hi, e]) (List.getElem?_eq_getElem hp)
  rw [h] at q
  exact d _ (Option.some.inj q)
def hideD (p : Addr) (M : Hp) : Hp := fun b => if b = p then none else M b
theorem hideD_at {p b : Addr} {M : Hp} {o : HO} (n : b ≠ p) (e : M b = some o) : hideD p M b = some o := by
  unfold hideD
  rw [if_neg n]
  exact e
def spInit (C : Addr) : Sp := fun vs H Q _ => ∃ (a dx p q : Addr) (as bs : List Addr) (ps : List Pt) (rs : List Rl), vs = [.ref a, .ref p, .ref q] ∧ H a = some (.ins C dx []) ∧ H p = some (.lst (as.map V.ref)) ∧ H q = some (.lst (bs.map V.ref)) ∧
  Row ptV H as ps ∧ Row rlV H bs rs ∧ Good ps rs ∧ ∀ H', Sbut a H H' → (∀ q kvs, H q = some (.dK kvs) → NetAt (hideD q H') C a ps rs) → NetAt H' C a ps rs → Q .non H'
theorem putF_2 {x y : V} : putF "_rules" y [(("_points" : Str), x)] = [(("_points" : Str), x), (("_rules" : Str), y)] := by
  simp only [putF]
  rw [if_neg (by decide +kernel)]
theorem putF_3 {x y z : V} : putF "_places" z [(("_points" : Str), x), (("_rules" : Str), y)] = [(("_points" : Str), x), (("_rules" : Str), y), (("_places" : Str), z)] := by
  simp only [putF]
  rw [if_neg (by decide +kernel), if_neg (by decide +kernel)]
structure ClsN (K : PySem.W.Frag) (C : Addr) : Prop where
  cls : Cls K C
  n1 : NoAttr K C "_points"
  n2 : NoAttr K C "_rules"
  n3 : NoAttr K C "_places"
section
variable {P : Program} {w : World} {K : PySem.W.Frag} {mg : Str → Option Value} {base : Heap}
theorem scInit : FnScope ["self", "points", "rules", "wrong", "places", "k", "point", "rule"] ["self", "points", "rules"] (defScope sInit) := ⟨rfl, rfl, rfl, by decide +kernel, rfl, by decide +kernel, by decide +kernel⟩
theorem ok_init {f C : Addr} {fd : FuncData} (F : Fun K "__init__" "Network.__init__" sInit f fd) (T : Wds mg) (cn : ClsN K C) (wips : Cf P w K mg base 3 "wrong_in_points" spWips) (wirs : Cf P w K mg base 3 "wrong_in_rules" spWirs) : FnOk P w K mg base CX0 4 f fd ["self", "points", "rules"] (spInit C) := by
  refine F.ok scInit (fun vs H Q E h => ?_) (fun cdv A outer s H vs Q E hr h => ?_)
  · obtain ⟨a, dx, p, q, as, bs, ps, rs, rfl, _⟩ := h
    rfl
  · obtain ⟨a, dx, p, q, as, bs, ps, rs, rfl, ha, hp, hq, row, rowR, good, k⟩ := h
    refine ⟨_, (pss_cons (ps_set (i := 3) scInit.nd rfl (.inl rfl) (pe_f wips hr (by decide) (by rfl) (pa_cons (pv 1) pa_nil)))
      (pss_cons (ps_if (pt_cmpR op_notN (pv 3) pe_non (nomark _)) (pss_one ps_never) pss_nil)
      (pss_cons (ps_setDc (i := 4) (own := [("k", 5), ("point", 6)]) rfl scInit.nd rfl rfl (sw_dict rfl rfl rfl (by decide +kernel)) (pi_enum (by rfl) T.zenumerate (pa_cons (pv 1) pa_nil)) (blkOk_by (N := ["self", "points", "rules", "wrong", "places", "k", "point", "rule"]) (sc := defScope sInit) (by decide +kernel)) (fun _ _ _ _ _ => (pg_tk (K := K) (n := 2) rfl (by rfl) (pgs_cons (pg_name (i := 5) scInit.nd rfl (.inl rfl)) (pgs_cons (pg_name (i := 6) scInit.nd rfl (.inl rfl)) pgs_nil)) (by rfl) (by rfl))) (fun _ _ _ _ _ => pts_nil) (fun _ _ _ _ _ => (pe_ix (ix_tup : IxR _ (rIxT K)) (pv 6) pe_int (fun _ _ => rfl))) (fun _ _ _ _ _ => (pv 5)))
      (pss_cons (ps_set (i := 3) scInit.nd rfl (.inl rfl) (pe_f wirs hr (by decide) (by rfl) (pa_cons (pv 2) (pa_cons (pv 4) pa_nil))))
      (pss_cons (ps_if (pt_cmpR op_notN (pv 3) pe_non (nomark _)) (pss_one ps_never) pss_nil)
      (pss_cons (ps_fld (pv 0) (pe_callTy call_tuple_of (by rfl) T.ztuple (by decide +kernel) (pa_cons (pe_lc (own := [("point", 6)]) (by rfl) scInit.nd (pi_list (pv 1)) (blkOk_by (N := ["self", "points", "rules", "wrong", "places", "k", "point", "rule"]) (sc := defScope sInit) (by decide +kernel)) (fun _ _ _ _ _ => (pg_name (i := 6) scInit.nd rfl (.inl rfl))) (fun _ _ _ _ _ => pts_nil) (fun _ _ _ _ _ => (pe_callTy (call_tupK (K := K) rfl) (by rfl) T.ztuple (by decide +kernel) (pa_cons (pv 6) pa_nil)))) pa_nil)) (by rfl))
      (pss_cons (ps_fld (pv 0) (pe_callTy call_tuple_of (by rfl) T.ztuple (by decide +kernel) (pa_cons (pe_lc (own := [("rule", 7)]) (by rfl) scInit.nd (pi_list (pv 2)) (blkOk_by (N := ["self", "points", "rules", "wrong", "places", "k", "point", "rule"]) (sc := defScope sInit) (by decide +kernel)) (fun _ _ _ _ _ => (pg_name (i := 7) scInit.nd rfl (.inl rfl))) (fun _ _ _ _ _ => pts_nil) (fun _ _ _ _ _ => (pe_callTy (call_tupK (K := K) rfl) (by rfl) T.ztuple (by decide +kernel) (pa_cons (pv 7) pa_nil)))) pa_nil)) (by rfl))
      (pss_one (ps_fld (pv 0) (pv 4) (by rfl)))))))))), ?_⟩
    refine ⟨_, rfl, p, as, ps, rfl, hp, row, good.ok, good.nd, good.few, fun H1 s1 => ?_⟩
    refine ⟨_, rfl, rfl, false, rfl, iteF ?_⟩
    refine ⟨_, rfl, p, _, rfl, SqL.of (s1 _ _ hp), fun D nD => ?_⟩
    refine dc_it walk_enum (fun i H2 => Same H1 H2 ∧ H2 D = some (.dK (placesFrom 0 ((namesOf ps).take i)))) ⟨same_new nD, upd_same⟩ (fun i H2 _ z => SqL.of (z.1 _ _ (s1 _ _ hp))) ?_ ?_
    · rintro i y H2 H3 hi ⟨s2, hD⟩ ⟨t, x1, x2, rfl, ht, rfl, h1, h2⟩
      obtain rfl : V.int (i : Nat) = x1 := Option.some.inj h1
      have hi' : i < as.length := by rw [List.length_map] at hi; exact hi
      have hip : i < ps.length := by rw [← row.1]; exact hi'
      obtain rfl : V.ref as[i] = x2 := by
        have h2 : (as.map V.ref)[i]? = some x2 := h2
        rw [List.getElem?_map, List.getElem?_eq_getElem hi'] at h2
        exact Option.some.inj h2
      have pa : H as[i] = some (.tup [.str ps[i].1, .int ps[i].2.1, .int ps[i].2.2]) := row.2 i _ _ (List.getElem?_eq_getElem hi') (List.getElem?_eq_getElem hip)
      have s4 : Same H (upd H2 t (.tup [.int (i : Nat), .ref as[i]])) := (s1.trans s2).trans (same_new ht)
      have hD4 : (upd H2 t (.tup [.int (i : Nat), .ref as[i]])) D = some (.dK (placesFrom 0 ((namesOf ps).take i))) := by
        rw [upd_ne (ne_of_none hD ht)]
        exact hD
      refine ⟨t, _, rfl, SqT.of upd_same, rfl, _, _, rfl, _, _, rfl, rfl, ?_⟩
      refine ⟨rfl, _, rfl, as[i], _, 0, _, rfl, rfl, SqT.of (s4 _ _ pa), rfl, _, rfl, _, Sum.inr ps[i].1, rfl, hD4, small1000 (by rw [places_len, List.length_take]; have := good.few; omega), ?_, ?_⟩
      · exact fun b o z => by rw [upd_ne (ne_of_none z nD)]; exact (s2.trans (same_new ht)) b o z
      · have no : ps[i].1 ∉ (namesOf ps).take i := by
          rw [← List.map_take]
          exact nodup_at good.nd hip
        rw [upd_same, putK_new _ (places_no _ _ no), List.take_succ, show (namesOf ps)[i]? = some ps[i].1 by rw [List.getElem?_map, List.getElem?_eq_getElem hip]; rfl]
        show _ = some (HO.dK (placesFrom 0 ((namesOf ps).take i ++ [ps[i].1])))
        rw [places_app, List.length_take, Nat.zero_add, Nat.min_eq_left (by rw [List.length_map]; omega)]
    · rintro H2 ⟨s2, hD⟩
      have e1 : (namesOf ps).take (as.map V.ref).length = namesOf ps := List.take_of_length_le (by rw [List.length_map, List.length_map, row.1]; exact Nat.le_refl _)
      rw [e1] at hD
      have t2 := s1.trans s2
      refine ⟨_, rfl, _, rfl, q, D, bs, rs, _, rfl, t2 _ _ hq, rowR.same t2, hD, fun r hr => ?_, fun H3 s3 => ?_⟩
      · obtain ⟨m1, m2⟩ := good.ends r hr
        exact ⟨places_some good.nd m1, places_some good.nd m2⟩
      refine ⟨_, rfl, rfl, false, rfl, iteF ?_⟩
      have t3 := t2.trans s3
      -- tuple of the points
      refine ⟨_, rfl, p, rfl, ⟨_, SqL.of (t3 _ _ hp)⟩, fun D1 nD1 => ?_⟩
      refine lc_it walk_list (fun i H4 => Same H3 H4 ∧ H4 D1 = some (.lst ((as.map V.ref).take i))) ⟨same_new nD1, upd_same⟩ (fun i H4 _ z => SqL.of (z.1 _ _ (t3 _ _ hp))) ?_ ?_
      · rintro i y H4 H5 hi ⟨s4, h4⟩ ⟨rfl, hy⟩
        have hi' : i < as.length := by rw [List.length_map] at hi; exact hi
        have hip : i < ps.length := by rw [← row.1]; exact hi'
        obtain rfl : V.ref as[i] = y := by
          rw [List.getElem?_map, List.getElem?_eq_getElem hi'] at hy
          exact Option.some.inj hy
        have pa := (t3.trans s4) _ _ (row.2 i _ _ (List.getElem?_eq_getElem hi') (List.getElem?_eq_getElem hip))
        refine ⟨rfl, _, rfl, as[i], _, rfl, .inr ⟨SqT.of pa, ?_⟩⟩
        refine ⟨_, h4, small1000 (by rw [List.length_take, List.length_map]; have := good.few; have := row.1; omega), fun b o z => by rw [upd_ne (ne_of_none z nD1)]; exact s4 b o z, ?_⟩
        rw [upd_same, List.take_succ, List.getElem?_map, List.getElem?_eq_getElem hi']
        rfl
      · rintro H4 ⟨s4, h4⟩
        rw [List.take_of_length_le (Nat.le_refl _)] at h4
        refine ⟨D1, _, rfl, .inl ⟨SqL.of h4, fun PA nPA => ?_⟩⟩
        have s5 := s4.trans (same_new (o := .tup (as.map V.ref)) nPA)
        have t5 := t3.trans s5
        have hD5 := (s3.trans s5) _ _ hD
        have hPA5 : (upd H4 PA (.tup (as.map V.ref))) PA = some (.tup (as.map V.ref)) := upd_same
        revert hD5 hPA5 t5
        generalize upd H4 PA (.tup (as.map V.ref)) = H5
        intro t5 hD5 hPA5
        have ha5 := t5 _ _ ha
        have pa_a : PA ≠ a := ne_of hPA5 ha5 (by intro z; cases z)
        have d_a : D ≠ a := ne_of hD5 ha5 (by intro z; cases z)
        have q_a : q ≠ a := ne_of hq ha (by intro z; cases z)
        have na : a ∉ as := row_not row ha (fun p z => by cases z)
        have nb : a ∉ bs := row_not rowR ha (fun p z => by cases z)
        refine ⟨_, rfl, a, C, dx, [], rfl, ha5, cn.cls, cn.n1, (by decide : 0 < 1000), ?_⟩
        rw [show putF "_points" (V.ref PA) [] = [(("_points" : Str), V.ref PA)] from rfl]
        have b6 : Sbut a H (upd H5 a (.ins C dx [("_points", .ref PA)])) := (Sbut.of t5).trans Sbut.put
        have ha6 : (upd H5 a (.ins C dx [("_points", .ref PA)])) a = some (.ins C dx [("_points", .ref PA)]) := upd_same
        have hPA6 : (upd H5 a (.ins C dx [("_points", .ref PA)])) PA = some (.tup (as.map V.ref)) := by rw [upd_ne pa_a]; exact hPA5
        have hD6 : (upd H5 a (.ins C dx [("_points", .ref PA)])) D = some (.dK (placesFrom 0 (namesOf ps))) := by rw [upd_ne d_a]; exact hD5
        revert b6 ha6 hPA6 hD6
        generalize upd H5 a (.ins C dx [("_points", .ref PA)]) = H6
        intro b6 ha6 hPA6 hD6
        -- tuple of the rules
        refine ⟨_, rfl, q, rfl, ⟨_, SqL.of (b6 _ _ hq q_a)⟩, fun D2 nD2 => ?_⟩
        refine lc_it walk_list (fun i H7 => Same H6 H7 ∧ H7 D2 = some (.lst ((bs.map V.ref).take i))) ⟨same_new nD2, upd_same⟩ (fun i H7 _ z => SqL.of (z.1 _ _ (b6 _ _ hq q_a))) ?_ ?_
        · rintro i y H7 H8 hi ⟨s7, h7⟩ ⟨rfl, hy⟩
          have hi' : i < bs.length := by rw [List.length_map] at hi; exact hi
          have hip : i < rs.length := by rw [← rowR.1]; exact hi'
          obtain rfl : V.ref bs[i] = y := by
            rw [List.getElem?_map, List.getElem?_eq_getElem hi'] at hy
            exact Option.some.inj hy
          have pb := s7 _ _ ((rowR.but b6 nb).2 i _ _ (List.getElem?_eq_getElem hi') (List.getElem?_eq_getElem hip))
          refine ⟨rfl, _, rfl, bs[i], _, rfl, .inr ⟨SqT.of pb, ?_⟩⟩
          refine ⟨_, h7, small1000 (by rw [List.length_take, List.length_map]; have := good.fewR; have := rowR.1; omega), fun b o z => by rw [upd_ne (ne_of_none z nD2)]; exact s7 b o z, ?_⟩
          rw [upd_same, List.take_succ, List.getElem?_map, List.getElem?_eq_getElem hi']
          rfl
        · rintro H7 ⟨s7, h7⟩
          rw [List.take_of_length_le (Nat.le_refl _)] at h7
          refine ⟨D2, _, rfl, .inl ⟨SqL.of h7, fun RA nRA => ?_⟩⟩
          have s8 := s7.trans (same_new (o := .tup (bs.map V.ref)) nRA)
          have hRA8 : (upd H7 RA (.tup (bs.map V.ref))) RA = some (.tup (bs.map V.ref)) := upd_same
          revert s8 hRA8
          generalize upd H7 RA (.tup (bs.map V.ref)) = H8
          intro s8 hRA8
          have ha8 := s8 _ _ ha6
          have ra_a : RA ≠ a := ne_of hRA8 ha8 (by intro z; cases z)
          refine ⟨_, rfl, a, C, dx, _, rfl, ha8, cn.cls, cn.n2, (by decide : 1 < 1000), ?_⟩
          rw [show putF "_rules" (V.ref RA) [(("_points" : Str), V.ref PA)] = [(("_points" : Str), V.ref PA), (("_rules" : Str), V.ref RA)] from putF_2]
          refine ⟨_, rfl, _, rfl, a, C, dx, _, rfl, upd_same, cn.cls, cn.n3, (by decide : 2 < 1000), ?_⟩
          rw [upd_upd, show putF "_places" (V.ref D) [(("_points" : Str), V.ref PA), (("_rules" : Str), V.ref RA)] = [(("_points" : Str), V.ref PA), (("_rules" : Str), V.ref RA), (("_places" : Str), V.ref D)] from putF_3]
          have b9 : Sbut a H (upd H8 a (.ins C dx [("_points", .ref PA), ("_rules", .ref RA), ("_places", .ref D)])) := (b6.trans (Sbut.of s8)).trans Sbut.put
          have gPA : (upd H8 a (.ins C dx [("_points", .ref PA), ("_rules", .ref RA), ("_places", .ref D)])) PA = some (.tup (as.map V.ref)) := by
            rw [upd_ne pa_a]
            exact s8 _ _ hPA6
          have gRA : (upd H8 a (.ins C dx [("_points", .ref PA), ("_rules", .ref RA), ("_places", .ref D)])) RA = some (.tup (bs.map V.ref)) := by
            rw [upd_ne ra_a]
            exact hRA8
          have gD : (upd H8 a (.ins C dx [("_points", .ref PA), ("_rules", .ref RA), ("_places", .ref D)])) D = some (.dK (placesFrom 0 (namesOf ps))) := by
            rw [upd_ne d_a]
            exact s8 _ _ hD6
          have r1 := row.but b9 na
          have r2 := rowR.but b9 nb
          refine k _ b9 (fun q2 kvs e2 => ?_) ⟨dx, PA, RA, D, as, bs, upd_same, gPA, gRA, gD, r1, r2⟩
          have e9 := b9 _ _ e2 (ne_of e2 ha (by intro z; cases z))
          refine ⟨dx, PA, RA, D, as, bs, hideD_at (ne_of upd_same e9 (by intro z; cases z)) upd_same, hideD_at (ne_of gPA e9 (by intro z; cases z)) gPA, hideD_at (ne_of gRA e9 (by intro z; cases z)) gRA, hideD_at (ne_of_none (s1 _ _ e2) nD).symm gD, ⟨r1.1, fun i b p h1 h2 => ?_⟩, ⟨r2.1, fun i b p h1 h2 => ?_⟩⟩
          · exact hideD_at (ne_of (r1.2 i b p h1 h2) e9 (by intro z; cases z)) (r1.2 i b p h1 h2)
          · exact hideD_at (ne_of (r2.2 i b p h1 h2) e9 (by intro z; cases z)) (r2.2 i b p h1 h2)
end
end K14
namespace Rt
open PySem PySem.Spec L2
open PyProof.Rows hiding St
/-! ### a built-in function that stands among the names of the module -/
theorem pe_bg {X : Cx} {x : Str} {p pos : Pos} {e : Expr} {es : List Expr} {t : TA} {id : String} {r : List V → Hp → VK → Prop} (c : CallR X (.builtin id) r) (hx : Gl X x) (m : X.mg x = some (.builtin id)) (a : PA X (e :: es) t)
    (nodbg : (x == ("__debug__" : Str)) = false := by decide) (st : starEach (e :: es) X.env = (false, eval e X.env) :: starEach es X.env := by rfl)
    (pl : (backTo pos (starEach es X.env)).any (·.1) = false := by rfl) : PE X (.Call (.Name x p) (e :: es) [] pos) (tCB r t) := by
  constructor
  intro pins s σ H Q I want
  refine wpAny_Call_Name_kw (ld_glob I hx m ?_ nodbg)
  refine PyProof.Rows.callWith_builtin1 (thn (a.run pos pins s σ H _ I want) ?_) st pl
  rintro us s1 ⟨vs, H1, J, rv, q⟩
  exact c pins s1 σ H1 vs us Q J rv q
def rLcm : List V → Hp → VK → Prop := fun vs H Q => ∃ a b : Nat, vs = [.int a, .int b] ∧ a < 2 ^ 60 ∧ b < 2 ^ 60 ∧ Nat.lcm a b < 2 ^ 60 ∧ Q (.int (Nat.lcm a b : Nat)) H
theorem call_lcm {X : Cx} : CallR X (.builtin "math.lcm") rLcm := by
  intro pins s σ H vs us Q I rv want
  obtain ⟨a, b, rfl, ha, hb, hl, q⟩ := want
  obtain ⟨u1, u2, rfl, ⟨t1, rfl⟩, ⟨t2, rfl⟩⟩ := vals2 rv
  have e : ((((Nat.lcm 1 (a : Int).natAbs).lcm (b : Int).natAbs : Nat) : Int)) = ((Nat.lcm a b : Nat) : Int) := by
    rw [Int.natAbs_natCast, Int.natAbs_natCast, Nat.lcm_one_left]
  refine PySem.W.mg_lcm_v (by rw [Int.natAbs_natCast]; omega) (by rw [Int.natAbs_natCast]; omega) e ?_ ⟨.int _, H, I.tok _, ⟨_, rfl⟩, q⟩
  rw [Int.natAbs_natCast]
  have : (Nat.lcm a b).log2 < 60 := by
    rcases Nat.eq_zero_or_pos (Nat.lcm a b) with z | z
    · rw [z]
      decide
    · exact (Nat.log2_lt (by omega)).mpr hl
  exact Nat.lt_trans this (by decide)
end Rt
namespace K14
open PySem PySem.Spec L2 Rt
open PyProof.Rows hiding St
abbrev sMPoints : Stmt := inClass (top 23) 1
abbrev sMRules : Stmt := inClass (top 23) 2
abbrev sMNames : Stmt := inClass (top 23) 3
abbrev sMHas : Stmt := inClass (top 23) 4
abbrev sMIndex : Stmt := inClass (top 23) 6
abbrev sMPeriod : Stmt := inClass (top 23) 7
def spPoints (C : Addr) : Sp := fun vs H Q _ => ∃ (a : Addr) (ps : List Pt) (rs : List Rl), vs = [.ref a] ∧ NetAt H C a ps rs ∧ ∀ (L : Addr) (as : List Addr) (H' : Hp), H L = none → Same H H' → H' L = some (.lst (as.map V.ref)) → Row ptV H' as ps → Q (.ref L) H'
def spRules (C : Addr) : Sp := fun vs H Q _ => ∃ (a : Addr) (ps : List Pt) (rs : List Rl), vs = [.ref a] ∧ NetAt H C a ps rs ∧ ∀ (L : Addr) (as : List Addr) (H' : Hp), H L = none → Same H H' → H' L = some (.lst (as.map V.ref)) → Row rlV H' as rs → Q (.ref L) H'
def spMNames (C : Addr) : Sp := fun vs H Q _ => ∃ (a : Addr) (ps : List Pt) (rs : List Rl), vs = [.ref a] ∧ NetAt H C a ps rs ∧ ps.length ≤ 100 ∧ ∀ (L : Addr) (H' : Hp), H L = none → Same H H' → H' L = some (.lst ((namesOf ps).map V.str)) → Q (.ref L) H'
def spMHas (C : Addr) : Sp := fun vs H Q _ => ∃ (a : Addr) (x : Str) (ps : List Pt) (rs : List Rl), vs = [.ref a, .str x] ∧ NetAt H C a ps rs ∧ Q (.bl (valV (placesFrom 0 (namesOf ps)) (Sum.inr x)).isSome) H
def spMIndex (C : Addr) : Sp := fun vs H Q _ => ∃ (a : Addr) (ps : List Pt) (rs : List Rl) (i : Nat) (x : Str), vs = [.ref a, .str x] ∧ NetAt H C a ps rs ∧ (namesOf ps).Nodup ∧ (namesOf ps)[i]? = some x ∧ Q (.int i) H
def lcmOf (ps : List Pt) : Nat := ps.foldl (fun l p => Nat.lcm l p.2.2.toNat) 1
def spMPeriod (C : Addr) : Sp := fun vs H Q _ => ∃ (a : Addr) (ps : List Pt) (rs : List Rl) (M : Nat), vs = [.ref a] ∧ NetAt H C a ps rs ∧ (∀ p, p ∈ ps → 1 ≤ p.2.2 ∧ p.2.2.toNat ∣ M) ∧ 0 < M ∧ M < 2 ^ 60 ∧ Q (.int (lcmOf ps)) H
section
variable {P : Program} {w : World} {K : PySem.W.Frag} {mg : Str → Option Value} {base : Heap} {f C : Addr} {fd : FuncData}
theorem look_p {x y z : V} : List.lookup ("_points" : Str) [(("_points" : Str), x), (("_rules" : Str), y), (("_places" : Str), z)] = some x := by simp [List.lookup]
theorem look_r {x y z : V} : List.lookup ("_rules" : Str) [(("_points" : Str), x), (("_rules" : Str), y), (("_places" : Str), z)] = some y := by
  have h : (("_rules" : Str) == ("_points" : Str)) = false := by decide +kernel
  simp only [List.lookup, h, beq_self_eq_true]
theorem look_l {x y z : V} : List.lookup ("_places" : Str) [(("_points" : Str), x), (("_rules" : Str), y), (("_places" : Str), z)] = some z := by
  have h : (("_places" : Str) == ("_points" : Str)) = false := by decide +kernel
  have h2 : (("_places" : Str) == ("_rules" : Str)) = false := by decide +kernel
  simp only [List.lookup, h, h2, beq_self_eq_true]
theorem look_no {m : Str} {x y z : V} (n1 : (m == ("_points" : Str)) = false) (n2 : (m == ("_rules" : Str)) = false) (n3 : (m == ("_places" : Str)) = false) : List.lookup m [(("_points" : Str), x), (("_rules" : Str), y), (("_places" : Str), z)] = none := by
  simp only [List.lookup, n1, n2, n3]
theorem scMPoints : FnScope ["self"] ["self"] (defScope sMPoints) := ⟨rfl, rfl, rfl, by decide +kernel, rfl, by decide +kernel, by decide +kernel⟩
theorem ok_mpoints (F : Fun K "points" "Network.points" sMPoints f fd) (T : Wds mg) (cn : ClsN K C) : FnOk P w K mg base CX0 1 f fd ["self"] (spPoints C) := by
  refine F.ok scMPoints (fun vs H Q E h => ?_) (fun cdv A outer s H vs Q E hr h => ?_)
  · obtain ⟨a, ps, rs, rfl, _⟩ := h
    rfl
  · obtain ⟨a, ps, rs, rfl, net, k⟩ := h
    refine ⟨_, (pss_one (ps_ret (pe_callTy call_list_of (by rfl) T.zlist (by decide +kernel) (pa_cons (pe_fld (pv 0) (by rfl)) pa_nil)))), ?_⟩
    obtain ⟨dx, PA, RA, DA, as, bs, h1, h2, h3, h4, h5, h6⟩ := net.ex
    refine ⟨_, rfl, a, C, dx, _, _, rfl, h1, cn.cls, cn.n1, look_p, ?_⟩
    exact ⟨PA, _, rfl, .inr (SqT.of h2), fun L nL => k L as _ nL (same_new nL) upd_same (h5.same (same_new nL))⟩
theorem scMRules : FnScope ["self"] ["self"] (defScope sMRules) := ⟨rfl, rfl, rfl, by decide +kernel, rfl, by decide +kernel, by decide +kernel⟩
theorem ok_mrules (F : Fun K "rules" "Network.rules" sMRules f fd) (T : Wds mg) (cn : ClsN K C) : FnOk P w K mg base CX0 1 f fd ["self"] (spRules C) := by
  refine F.ok scMRules (fun vs H Q E h => ?_) (fun cdv A outer s H vs Q E hr h => ?_)
  · obtain ⟨a, ps, rs, rfl, _⟩ := h
    rfl
  · obtain ⟨a, ps, rs, rfl, net, k⟩ := h
    refine ⟨_, (pss_one (ps_ret (pe_callTy call_list_of (by rfl) T.zlist (by decide +kernel) (pa_cons (pe_fld (pv 0) (by rfl)) pa_nil)))), ?_⟩
    obtain ⟨dx, PA, RA, DA, as, bs, h1, h2, h3, h4, h5, h6⟩ := net.ex
    refine ⟨_, rfl, a, C, dx, _, _, rfl, h1, cn.cls, cn.n2, look_r, ?_⟩
    exact ⟨RA, _, rfl, .inr (SqT.of h3), fun L nL => k L bs _ nL (same_new nL) upd_same (h6.same (same_new nL))⟩
theorem scMNames : FnScope ["self", "point"] ["self"] (defScope sMNames) := ⟨rfl, rfl, rfl, by decide +kernel, rfl, by decide +kernel, by decide +kernel⟩
theorem ok_mnames (F : Fun K "names" "Network.names" sMNames f fd) (cn : ClsN K C) : FnOk P w K mg base CX0 1 f fd ["self"] (spMNames C) := by
  refine F.ok scMNames (fun vs H Q E h => ?_) (fun cdv A outer s H vs Q E hr h => ?_)
  · obtain ⟨a, ps, rs, rfl, _⟩ := h
    rfl
  · obtain ⟨a, ps, rs, rfl, net, few, k⟩ := h
    refine ⟨_, (pss_one (ps_ret (pe_lc (own := [("point", 1)]) (by rfl) scMNames.nd (pi_tup (pe_fld (pv 0) (by rfl))) (blkOk_by (N := ["self", "point"]) (sc := defScope sMNames) (by decide +kernel)) (fun _ _ _ _ _ => (pg_name (i := 1) scMNames.nd rfl (.inl rfl))) (fun _ _ _ _ _ => pts_nil) (fun _ _ _ _ _ => (pe_ix (ix_tup : IxR _ (rIxT K)) (pv 1) pe_int (fun _ _ => rfl)))))), ?_⟩
    obtain ⟨dx, PA, RA, DA, as, bs, h1, h2, h3, h4, h5, h6⟩ := net.ex
    refine ⟨_, rfl, a, C, dx, _, _, rfl, h1, cn.cls, cn.n1, look_p, PA, rfl, ⟨_, SqT.of h2⟩, fun D nD => ?_⟩
    refine lc_it walk_tup (fun i H1 => Same H H1 ∧ H1 D = some (.lst (((namesOf ps).take i).map V.str))) ⟨same_new nD, upd_same⟩ (fun i H1 _ z => SqT.of (z.1 _ _ h2)) ?_ ?_
    · rintro i y H1 H2 hi ⟨s1, hD⟩ ⟨rfl, hy⟩
      have hi' : i < as.length := by rw [List.length_map] at hi; exact hi
      have hip : i < ps.length := by rw [← h5.1]; exact hi'
      obtain rfl : V.ref as[i] = y := by
        rw [List.getElem?_map, List.getElem?_eq_getElem hi'] at hy
        exact Option.some.inj hy
      have pa : H as[i] = some (.tup [.str ps[i].1, .int ps[i].2.1, .int ps[i].2.2]) := h5.2 i _ _ (List.getElem?_eq_getElem hi') (List.getElem?_eq_getElem hip)
      refine ⟨rfl, _, rfl, as[i], _, 0, _, rfl, rfl, SqT.of (s1 _ _ pa), rfl, ?_⟩
      refine ⟨_, hD, small1000 (by rw [List.length_map, List.length_take]; omega), fun b o z => by rw [upd_ne (ne_of_none z nD)]; exact s1 b o z, ?_⟩
      rw [upd_same, List.take_succ, show (namesOf ps)[i]? = some ps[i].1 by rw [List.getElem?_map, List.getElem?_eq_getElem hip]; rfl, List.map_append]
      rfl
    · rintro H1 ⟨s1, hD⟩
      rw [List.take_of_length_le (by rw [List.length_map, List.length_map, h5.1]; exact Nat.le_refl _)] at hD
      exact k D H1 nD s1 hD
theorem scMHas : FnScope ["self", "value"] ["self", "value"] (defScope sMHas) := ⟨rfl, rfl, rfl, by decide +kernel, rfl, by decide +kernel, by decide +kernel⟩
theorem ok_mhas (F : Fun K "has_name" "Network.has_name" sMHas f fd) (cn : ClsN K C) (isName : Cf P w K mg base 1 "is_name_of" spIsName) : FnOk P w K mg base CX0 2 f fd ["self", "value"] (spMHas C) := by
  refine F.ok scMHas (fun vs H Q E h => ?_) (fun cdv A outer s H vs Q E hr h => ?_)
  · obtain ⟨a, x, ps, rs, rfl, _⟩ := h
    rfl
  · obtain ⟨a, x, ps, rs, rfl, net, k⟩ := h
    refine ⟨_, (pss_one (ps_ret (pe_f isName hr (by decide) (by rfl) (pa_cons (pv 1) (pa_cons (pe_fld (pv 0) (by rfl)) pa_nil))))), ?_⟩
    obtain ⟨dx, PA, RA, DA, as, bs, h1, h2, h3, h4, h5, h6⟩ := net.ex
    exact ⟨_, rfl, _, rfl, a, C, dx, _, _, rfl, h1, cn.cls, cn.n3, look_l, x, DA, _, rfl, h4, k⟩
theorem scMIndex : FnScope ["self", "name"] ["self", "name"] (defScope sMIndex) := ⟨rfl, rfl, rfl, by decide +kernel, rfl, by decide +kernel, by decide +kernel⟩
theorem ok_mindex (F : Fun K "index" "Network.index" sMIndex f fd) (cn : ClsN K C) (hasName : Md P w K mg base 2 C "has_name" (spMHas C)) : FnOk P w K mg base CX0 3 f fd ["self", "name"] (spMIndex C) := by
  refine F.ok scMIndex (fun vs H Q E h => ?_) (fun cdv A outer s H vs Q E hr h => ?_)
  · obtain ⟨a, ps, rs, i, x, rfl, _⟩ := h
    rfl
  · obtain ⟨a, ps, rs, i, x, rfl, net, nd, ix, k⟩ := h
    have hu := hu_of hr
    refine ⟨_, (pss_cons (ps_if (pt_not (pt_val (pe_m cn.cls hasName hr (by decide) (pv 0) (pa_cons (pv 1) pa_nil)))) (pss_one ps_never) pss_nil)
      (pss_one (ps_ret (pe_dget hu (pe_fld (pv 0) (by rfl)) (pv 1) (fun _ _ => rfl))))), ?_⟩
    obtain ⟨dx, PA, RA, DA, as, bs, h1, h2, h3, h4, h5, h6⟩ := net.ex
    obtain ⟨hi, e⟩ := List.getElem?_eq_some_iff.mp ix
    have q : valV (placesFrom 0 (namesOf ps)) (Sum.inr x) = some (V.int (i : Nat)) := by
      rw [← e, places_at _ 0 i hi nd, Nat.zero_add]
    refine ⟨_, rfl, a, dx, _, rfl, h1, ?_, _, rfl, a, x, ps, rs, rfl, net, true, by rw [q]; rfl, iteF ?_⟩
    · exact look_no (by decide +kernel) (by decide +kernel) (by decide +kernel)
    refine ⟨_, rfl, a, C, dx, _, _, rfl, h1, cn.cls, cn.n3, look_l, _, rfl, DA, _, rfl, ?_, k⟩
    rw [← q]
    exact get_k h4
theorem scMPeriod : FnScope ["self", "period", "point"] ["self"] (defScope sMPeriod) := ⟨rfl, rfl, rfl, by decide +kernel, rfl, by decide +kernel, by decide +kernel⟩
theorem lcm_step (ps : List Pt) (i : Nat) (h : i < ps.length) : lcmOf (ps.take (i + 1)) = Nat.lcm (lcmOf (ps.take i)) ps[i].2.2.toNat := by
  unfold lcmOf
  rw [List.take_succ, List.getElem?_eq_getElem h, List.foldl_append]
  rfl
theorem lcm_dvd {M : Nat} : ∀ (ps : List Pt) (l : Nat), l ∣ M → (∀ p, p ∈ ps → p.2.2.toNat ∣ M) → ps.foldl (fun l p => Nat.lcm l p.2.2.toNat) l ∣ M
  | [], _, h, _ => h
  | p :: ps, l, h, hs => lcm_dvd ps _ (Nat.lcm_dvd h (hs p List.mem_cons_self)) fun q m => hs q (List.mem_cons_of_mem _ m)
theorem ok_mperiod (F : Fun K "period" "Network.period" sMPeriod f fd) (cn : ClsN K C) (hlcm : mg "lcm" = some (.builtin "math.lcm")) : FnOk P w K mg base CX0 1 f fd ["self"] (spMPeriod C) := by
  refine F.ok scMPeriod (fun vs H Q E h => ?_) (fun cdv A outer s H vs Q E hr h => ?_)
  · obtain ⟨a, ps, rs, M, rfl, _⟩ := h
    rfl
  · obtain ⟨a, ps, rs, M, rfl, net, dv, m0, m1, k⟩ := h
    refine ⟨_, (pss_cons (ps_set (i := 1) scMPeriod.nd rfl (.inl rfl) pe_int)
      (pss_cons (ps_for PassesOwn.never rfl (pi_tup (pe_fld (pv 0) (by rfl))) (pg_name (i := 2) scMPeriod.nd rfl (.inl rfl))
        (pss_one (ps_set (i := 1) scMPeriod.nd rfl (.inl rfl) (pe_bg call_lcm (by rfl) hlcm (pa_cons (pv 1) (pa_cons (pe_ix ix_tup (pv 2) pe_int (fun _ _ => rfl)) pa_nil))))))
      (pss_one (ps_ret (pv 1))))), ?_⟩
    obtain ⟨dx, PA, RA, DA, as, bs, h1, h2, h3, h4, h5, h6⟩ := net.ex
    have below : ∀ i, lcmOf (ps.take i) < 2 ^ 60 := fun i => Nat.lt_of_le_of_lt (Nat.le_of_dvd m0 (lcm_dvd (ps.take i) 1 (Nat.one_dvd M) fun p m => (dv p (List.mem_of_mem_take m)).2)) m1
    refine ⟨_, rfl, a, C, dx, _, _, rfl, h1, cn.cls, cn.n1, look_p, PA, rfl, ⟨_, SqT.of h2⟩, ?_⟩
    refine for_it walk_tup (fun i σ H1 => ∃ v2 : Option V, σ = [some (.ref a), some (.int (lcmOf (ps.take i) : Nat)), v2] ∧ H1 = H) ⟨_, rfl, rfl⟩ (fun i σ H1 _ ⟨_, _, e⟩ => by rw [e]; exact SqT.of h2) ?_ ?_
    · rintro i y σ H1 H2 hi ⟨v2, rfl, rfl⟩ ⟨rfl, hy⟩
      have hi' : i < as.length := by rw [List.length_map] at hi; exact hi
      have hip : i < ps.length := by rw [← h5.1]; exact hi'
      obtain rfl : V.ref as[i] = y := by
        rw [List.getElem?_map, List.getElem?_eq_getElem hi'] at hy
        exact Option.some.inj hy
      have pa := h5.2 i _ _ (List.getElem?_eq_getElem hi') (List.getElem?_eq_getElem hip)
      obtain ⟨d1, d2⟩ := dv _ (List.getElem_mem hip)
      have e2 : ps[i].2.2 = ((ps[i].2.2.toNat : Nat) : Int) := (Int.toNat_of_nonneg (by omega)).symm
      refine ⟨_, rfl, _, rfl, as[i], [.str ps[i].1, .int ps[i].2.1, .int ps[i].2.2], 2, _, rfl, rfl, SqT.of pa, rfl, lcmOf (ps.take i), ps[i].2.2.toNat, by rw [← e2], below i, Nat.lt_of_le_of_lt (Nat.le_of_dvd m0 d2) m1, by rw [← lcm_step ps i hip]; exact below (i + 1), ?_⟩
      refine ⟨some (.ref as[i]), ?_, rfl⟩
      rw [lcm_step ps i hip]
      rfl
    · rintro σ H1 ⟨v2, rfl, rfl⟩
      rw [List.take_of_length_le (by rw [List.length_map, h5.1]; exact Nat.le_refl _)]
      exact ⟨_, rfl, k⟩
end
end K14
namespace K14
open PySem PySem.Spec L2 Rt
open PyProof.Rows hiding St
/-! ### values of all kinds -/
def kindOf : HO → Option String
  | .lst _ => some "list"
  | .tup _ => some "tuple"
  | .dK _ => some "dict"
  | _ => none
def Od (H : Hp) : V → Prop
  | .ref t => ∃ o T, H t = some o ∧ kindOf o = some T
  | .ty _ => False
  | .byt _ => False
  | .flt _ => False
  | _ => True
def isI : V → Bool
  | .int _ => true
  | _ => false
theorem od_type {K : PySem.W.Frag} {H : Hp} {v : V} (h : Od H v) : ∃ T b1 b2, TyX K H v (.type T) ∧ kitB T "int" = some b1 ∧ kitB T "bool" = some b2 ∧ (b1 && !b2) = isI v := by
  cases v with
  | non => exact ⟨_, false, false, .base .non, by decide +kernel, by decide +kernel, rfl⟩
  | bl b => exact ⟨_, true, true, .base (.bl b), by decide +kernel, by decide +kernel, rfl⟩
  | int i => exact ⟨_, true, false, .base (.int i), by decide +kernel, by decide +kernel, rfl⟩
  | str x => exact ⟨_, false, false, .base (.str x), by decide +kernel, by decide +kernel, rfl⟩
  | byt b => exact h.elim
  | flt b => exact h.elim
  | ty n => exact h.elim
  | ref t =>
    obtain ⟨o, T, e, k⟩ := h
    cases o with
    | lst xs => exact ⟨_, false, false, .base (.lst e), by decide +kernel, by decide +kernel, rfl⟩
    | tup xs => exact ⟨_, false, false, .base (.tup e), by decide +kernel, by decide +kernel, rfl⟩
    | dK kvs => exact ⟨_, false, false, .base (.dK e), by decide +kernel, by decide +kernel, rfl⟩
    | _ => cases k
def onB (f s : Int) : V → Bool
  | .int i => decide ((i - f) % s = 0)
  | _ => false
theorem dec_V (i j : Int) : decide (V.int i = V.int j) = decide (i = j) := by
  by_cases h : i = j
  · subst h
    simp
  · rw [decide_eq_false h]
    exact decide_eq_false fun z => h (V.int.inj z)
/-! ### promises -/
def spIsInt : Sp := fun vs H Q _ => ∃ v, vs = [v] ∧ Od H v ∧ Q (.bl (isI v)) H
def spOn : Sp := fun vs H Q _ => ∃ (t : Addr) (f s : Int) (v : V), vs = [.ref t, v] ∧ H t = some (.tup [.int f, .int s]) ∧ 0 < s ∧ Od H v ∧ Q (.bl (onB f s v)) H
theorem Keep.od {d c : Addr} {H H1 : Hp} {v : V} (a : Keep d c H H1) (w : ∀ t, v = .ref t → t ≠ d ∧ t ≠ c) (h : Od H v) : Od H1 v := by
  cases v with
  | ref t =>
    obtain ⟨o, T, e, k⟩ := h
    obtain ⟨n1, n2⟩ := w t rfl
    exact ⟨o, T, a t o e n1 n2, k⟩
  | non => exact True.intro
  | bl b => exact True.intro
  | int i => exact True.intro
  | str x => exact True.intro
  | byt b => exact h.elim
  | flt b => exact h.elim
  | ty n => exact h.elim

theorem Od.same {H H' : Hp} {v : V} (s : Same H H') (h : Od H v) : Od H' v := by
  cases v with
  | ref t =>
    obtain ⟨o, T, e, k⟩ := h
    exact ⟨o, T, s _ _ e, k⟩
  | non => exact True.intro
  | bl b => exact True.intro
  | int i => exact True.intro
  | str x => exact True.intro
  | byt b => exact h.elim
  | flt b => exact h.elim
  | ty n => exact h.elim
/-! ### what a judge says -/
/-- a value is judged as a row of items, or as no row -/
inductive Jd (K : PySem.W.Frag) (H : Hp) : V → Option (List V) → Prop where
  | no {v : V} {T : String} (ty : ∀ H', Same H H' → TyX K H' v (.type T)) (k : PySem.W.kitAny K (.type T) [.type "list", .type "tuple"] = some false) : Jd K H v none
  | lst {q : Addr} {xs : List V} (h : H q = some (.lst xs)) (o : ∀ x, x ∈ xs → Od H x) : Jd K H (.ref q) (some xs)
  | tup {q : Addr} {xs : List V} (h : H q = some (.tup xs)) (o : ∀ x, x ∈ xs → Od H x) : Jd K H (.ref q) (some xs)
def onAt (ps : List Pt) (xs : List V) (k : Nat) : Prop := ∃ (p : Pt) (x : V), ps[k]? = some p ∧ xs[k]? = some x ∧ onB p.2.1 p.2.2 x = true
def offAt (ps : List Pt) (xs : List V) (k : Nat) : Prop := ∃ (p : Pt) (x : V), ps[k]? = some p ∧ xs[k]? = some x ∧ onB p.2.1 p.2.2 x = false
/-- the numbers that a rule speaks of -/
def rowAt (ps : List Pt) (xs : List V) (r : Rl) (a b : Int) : Prop := ∃ i j : Nat, (namesOf ps)[i]? = some r.1 ∧ (namesOf ps)[j]? = some r.2.1 ∧ xs[i]? = some (V.int a) ∧ xs[j]? = some (V.int b)
def keepsAt (ps : List Pt) (rs : List Rl) (xs : List V) (k : Nat) : Prop := ∃ r a b, rs[k]? = some r ∧ rowAt ps xs r a b ∧ a + r.2.2 ≤ b
def failsAt (ps : List Pt) (rs : List Rl) (xs : List V) (k : Nat) : Prop := ∃ r a b, rs[k]? = some r ∧ rowAt ps xs r a b ∧ b < a + r.2.2
inductive Verd (ps : List Pt) (rs : List Rl) : Option (List V) → Option (List V) → Prop where
  | form0 : Verd ps rs none (some [.str "form"])
  | form {xs : List V} (h : xs.length ≠ ps.length) : Verd ps rs (some xs) (some [.str "form"])
  | clock {xs : List V} {k : Nat} (h : xs.length = ps.length) (b : ∀ j, j < k → onAt ps xs j) (f : offAt ps xs k) : Verd ps rs (some xs) (some [.str "clock", .int k])
  | rule {xs : List V} {k : Nat} (h : xs.length = ps.length) (c : ∀ j, j < ps.length → onAt ps xs j) (b : ∀ j, j < k → keepsAt ps rs xs j) (f : failsAt ps rs xs k) : Verd ps rs (some xs) (some [.str "rule", .int k])
  | fine {xs : List V} (h : xs.length = ps.length) (c : ∀ j, j < ps.length → onAt ps xs j) (b : ∀ j, j < rs.length → keepsAt ps rs xs j) : Verd ps rs (some xs) none
theorem on_off {ps : List Pt} {xs : List V} {k : Nat} (a : onAt ps xs k) (b : offAt ps xs k) : False := by
  obtain ⟨p, x, h1, h2, h3⟩ := a
  obtain ⟨q, y, g1, g2, g3⟩ := b
  cases h1.symm.trans g1
  cases h2.symm.trans g2
  rw [h3] at g3
  cases g3
theorem name_uniq {l : List Str} (nd : l.Nodup) {i j : Nat} {x : Str} (h : l[i]? = some x) (g : l[j]? = some x) : i = j := by
  obtain ⟨hi, e⟩ := List.getElem?_eq_some_iff.mp h
  obtain ⟨hj, e2⟩ := List.getElem?_eq_some_iff.mp g
  rcases Nat.lt_trichotomy i j with lt | rfl | gt
  · exact absurd (e.trans e2.symm) (List.pairwise_iff_getElem.mp nd i j hi hj lt)
  · rfl
  · exact absurd (e2.trans e.symm) (List.pairwise_iff_getElem.mp nd j i hj hi gt)
theorem row_uniq {ps : List Pt} {xs : List V} {r : Rl} {a b c d : Int} (nd : (namesOf ps).Nodup) (h : rowAt ps xs r a b) (g : rowAt ps xs r c d) : a = c ∧ b = d := by
  obtain ⟨i, j, h1, h2, h3, h4⟩ := h
  obtain ⟨k, l, g1, g2, g3, g4⟩ := g
  cases name_uniq nd h1 g1
  cases name_uniq nd h2 g2
  cases h3.symm.trans g3
  cases h4.symm.trans g4
  exact ⟨rfl, rfl⟩
theorem keeps_fails {ps : List Pt} {rs : List Rl} {xs : List V} {k : Nat} (nd : (namesOf ps).Nodup) (a : keepsAt ps rs xs k) (b : failsAt ps rs xs k) : False := by
  obtain ⟨r, x, y, h1, h2, h3⟩ := a
  obtain ⟨q, u, v, g1, g2, g3⟩ := b
  cases h1.symm.trans g1
  obtain ⟨rfl, rfl⟩ := row_uniq nd h2 g2
  omega
theorem offAt.lt {ps : List Pt} {xs : List V} {k : Nat} (f : offAt ps xs k) : k < ps.length := by
  obtain ⟨p, x, h1, _⟩ := f
  exact (List.getElem?_eq_some_iff.mp h1).1
theorem failsAt.lt {ps : List Pt} {rs : List Rl} {xs : List V} {k : Nat} (f : failsAt ps rs xs k) : k < rs.length := by
  obtain ⟨p, x, y, h1, _⟩ := f
  exact (List.getElem?_eq_some_iff.mp h1).1
theorem verd_uniq {ps : List Pt} {rs : List Rl} {v u w : Option (List V)} (nd : (namesOf ps).Nodup) (h : Verd ps rs v u) (g : Verd ps rs v w) : u = w := by
  cases h with
  | form0 => cases g with | form0 => rfl
  | form a => cases g with
    | form _ => rfl
    | clock e _ _ => exact absurd e a
    | rule e _ _ _ => exact absurd e a
    | fine e _ _ => exact absurd e a
  | @clock xs k e b f => cases g with
    | form a => exact absurd e a
    | @clock _ l _ b2 f2 =>
      rcases Nat.lt_trichotomy k l with lt | rfl | gt
      · exact (on_off (b2 _ lt) f).elim
      · rfl
      · exact (on_off (b _ gt) f2).elim
    | rule _ c _ _ => exact (on_off (c _ f.lt) f).elim
    | fine _ c _ => exact (on_off (c _ f.lt) f).elim
  | @rule xs k e c b f => cases g with
    | form a => exact absurd e a
    | clock _ _ f2 => exact (on_off (c _ f2.lt) f2).elim
    | @rule _ l _ _ b2 f2 =>
      rcases Nat.lt_trichotomy k l with lt | rfl | gt
      · exact (keeps_fails nd (b2 _ lt) f).elim
      · rfl
      · exact (keeps_fails nd (b _ gt) f2).elim
    | fine _ _ b2 => exact (keeps_fails nd (b2 _ f.lt) f).elim
  | fine e c b => cases g with
    | form a => exact absurd e a
    | clock _ _ f2 => exact (on_off (c _ f2.lt) f2).elim
    | rule _ _ _ f2 => exact (keeps_fails nd (b _ f2.lt) f2).elim
    | fine _ _ _ => rfl
/-- how a verdict is told -/
def Tells (H : Hp) : Option (List V) → V → Prop
  | none, v => v = .non
  | some ys, v => ∃ t, v = .ref t ∧ H t = some (.tup ys)
def spJudge (K : PySem.W.Frag) (C : Addr) : Sp := fun vs H Q _ => ∃ (a : Addr) (v : V) (ps : List Pt) (rs : List Rl) (xo : Option (List V)), vs = [.ref a, v] ∧ NetAt H C a ps rs ∧ Good ps rs ∧ Jd K H v xo ∧
  ∀ (u : V) (r : Option (List V)) (H' : Hp), Verd ps rs xo r → Tells H' r u → Same H H' → Q u H'
section
variable {P : Program} {w : World} {K : PySem.W.Frag} {mg : Str → Option Value} {base : Heap}
theorem ok_isInt2 {f : Addr} {fd : FuncData} (F : Fun K "is_integer" "is_integer" sIsInt f fd) (T : Wds mg) : FnOk P w K mg base CX0 1 f fd ["value"] spIsInt := by
  refine F.ok scIsInt (fun vs H Q E h => ?_) (fun cdv A outer s H vs Q E hr h => ?_)
  · obtain ⟨v, rfl, _⟩ := h
    rfl
  · obtain ⟨v, rfl, ho, k⟩ := h
    obtain ⟨T1, b1, b2, ty, k1, k2, e⟩ := od_type (K := K) ho
    refine ⟨_, (pss_one (ps_ret (pe_and (pe_callB call_isi (by rfl) T.zisinstance (by decide +kernel) (pa_cons (pv 0) (pa_cons (pe_bltn (v := .ty "int") (by rfl) T.zint (by decide +kernel) rfl) pa_nil))) (pe_one (pe_not (pe_callB call_isi (by rfl) T.zisinstance (by decide +kernel) (pa_cons (pv 0) (pa_cons (pe_bltn (v := .ty "bool") (by rfl) T.zbool (by decide +kernel) rfl) pa_nil)))))))), ?_⟩
    refine ⟨_, rfl, v, .ty "int", _, .type "int", b1, rfl, .ty _, ty, kit_ty k1, b1, rfl, ?_⟩
    cases b1 with
    | true =>
      refine iteT ?_
      refine ⟨_, rfl, v, .ty "bool", _, .type "bool", b2, rfl, .ty _, ty, kit_ty k2, b2, rfl, ?_⟩
      rw [show (!b2) = isI v from by simpa using e]
      exact k
    | false =>
      refine iteF ?_
      rw [show false = isI v from by simpa using e]
      exact k
end
end K14
namespace K14
open PySem PySem.Spec L2 Rt
open PyProof.Rows hiding St
structure Meths (P : Program) (w : World) (K : PySem.W.Frag) (mg : Str → Option Value) (base : Heap) (C : Addr) : Prop where
  points : Md P w K mg base 1 C "points" (spPoints C)
  rules : Md P w K mg base 1 C "rules" (spRules C)
  names : Md P w K mg base 1 C "names" (spMNames C)
  index : Md P w K mg base 3 C "index" (spMIndex C)
  period : Md P w K mg base 1 C "period" (spMPeriod C)
def Row2 (H : Hp) (q : Addr) (xs : List V) : Prop := H q = some (.lst xs) ∨ H q = some (.tup xs)
theorem Row2.same {H H' : Hp} {q : Addr} {xs : List V} (s : Same H H') (h : Row2 H q xs) : Row2 H' q xs := h.imp (s _ _) (s _ _)
theorem Row2.type {K : PySem.W.Frag} {H : Hp} {q : Addr} {xs : List V} (h : Row2 H q xs) : ∃ T : String, TyX K H (.ref q) (.type T) ∧ PySem.W.kitAny K (.type T) [.type "list", .type "tuple"] = some true := by
  rcases h with h | h
  · exact ⟨_, .base (.lst h), kitLT (.inl rfl)⟩
  · exact ⟨_, .base (.tup h), kitLT (.inr rfl)⟩
theorem Row2.seq {K : PySem.W.Frag} {H : Hp} {q : Addr} {xs : List V} (h : Row2 H q xs) : SqL K H q xs ∨ SqT K H q xs := h.imp SqL.of SqT.of
theorem onB_int {f s : Int} {x : V} (h : onB f s x = true) : ∃ z, x = .int z := by
  cases x with
  | int z => exact ⟨z, rfl⟩
  | _ => exact absurd h (by simp [onB])
theorem num_at {ps : List Pt} {xs : List V} {x : Str} (len : xs.length = ps.length) (on : ∀ j, j < ps.length → onAt ps xs j) (m : x ∈ namesOf ps) : ∃ (i : Nat) (z : Int), (namesOf ps)[i]? = some x ∧ xs[i]? = some (V.int z) := by
  obtain ⟨i, hi, e⟩ := List.getElem_of_mem m
  have hp : i < ps.length := by rw [List.length_map] at hi; exact hi
  obtain ⟨p, y, h1, h2, h3⟩ := on i hp
  obtain ⟨z, rfl⟩ := onB_int h3
  exact ⟨i, z, by rw [List.getElem?_eq_getElem hi, e], h2⟩
theorem rIx_of {K : PySem.W.Frag} {H : Hp} {q : Addr} {xs : List V} {i : Int} {x : V} {Q : VK} (h : Row2 H q xs) (e : atI xs i = some x) (k : Q x H) : rIx K (.ref q) (.int i) H Q := by
  rcases h with h | h
  · exact .inl ⟨q, xs, i, x, rfl, rfl, SqL.of h, e, k⟩
  · exact .inr (.inl ⟨q, xs, i, x, rfl, rfl, SqT.of h, e, k⟩)
theorem atN {xs : List V} {i : Nat} {x : V} (h : xs[i]? = some x) : atI xs (i : Int) = some x := at_of (j := i) rfl h
theorem net_look {H : Hp} {C a : Addr} {ps : List Pt} {rs : List Rl} (h : NetAt H C a ps rs) : ∃ dx fs, H a = some (.ins C dx fs) ∧ ∀ m : Str, (m == ("_points" : Str)) = false → (m == ("_rules" : Str)) = false → (m == ("_places" : Str)) = false → fs.lookup m = none := by
  obtain ⟨dx, PA, RA, DA, as, bs, h1, _⟩ := h.ex
  exact ⟨dx, _, h1, fun m a b c => look_no a b c⟩
theorem kitLT0 {K : PySem.W.Frag} {T : String} (h1 : kitB T "list" = some false) (h2 : kitB T "tuple" = some false) : PySem.W.kitAny K (.type T) [.type "list", .type "tuple"] = some false :=
  kitAny_cons (b := false) (kit_ty h1) (fun _ => kitAny_cons (b := false) (kit_ty h2) (fun _ => kitAny_nil) (fun z => nomatch z)) (fun z => nomatch z)
section
variable {P : Program} {w : World} {K : PySem.W.Frag} {mg : Str → Option Value} {base : Heap} {f C : Addr} {fd : FuncData}
end
end K14
namespace K14
open PySem PySem.Spec L2 Rt
open PyProof.Rows hiding St
structure Rng (mg : Str → Option Value) : Prop where
  zrange : mg "range" = none
  zlen : mg "len" = none
  zmax : mg "max" = none
  zmin : mg "min" = none
  ztuple : mg "tuple" = none
def mx (i j : Int) : Int := if j > i then j else i
def mn (i j : Int) : Int := if j < i then j else i
theorem zip_at (op : Int → Int → Int) {xs ys : List Int} {i : Nat} (hx : i < xs.length) (hy : i < ys.length) : (List.zipWith op xs ys)[i]? = some (op xs[i] ys[i]) := by
  rw [List.getElem?_eq_getElem (by rw [List.length_zipWith]; omega), List.getElem_zipWith]
def spPair (C : Addr) (op : Int → Int → Int) : Sp := fun vs H Q _ => ∃ (a p q : Addr) (ps : List Pt) (rs : List Rl) (xs ys : List Int), vs = [.ref a, .ref p, .ref q] ∧ NetAt H C a ps rs ∧ ps.length ≤ 100 ∧ xs.length = ps.length ∧ ys.length = ps.length ∧
  Row2 H p (xs.map V.int) ∧ Row2 H q (ys.map V.int) ∧ ∀ (t : Addr) (H' : Hp), Same H H' → H' t = some (.tup ((List.zipWith op xs ys).map V.int)) → Q (.ref t) H'
def spShift (C : Addr) : Sp := fun vs H Q _ => ∃ (a p : Addr) (ps : List Pt) (rs : List Rl) (xs : List Int) (n : Int) (M : Nat), vs = [.ref a, .ref p, .int n] ∧ NetAt H C a ps rs ∧ (∀ p, p ∈ ps → 1 ≤ p.2.2 ∧ p.2.2.toNat ∣ M) ∧ 0 < M ∧ M < 2 ^ 60 ∧ xs.length ≤ 100 ∧
  Row2 H p (xs.map V.int) ∧ ∀ (t : Addr) (H' : Hp), Same H H' → H' t = some (.tup ((xs.map fun x => x + (lcmOf ps : Nat) * n).map V.int)) → Q (.ref t) H'
section
variable {P : Program} {w : World} {K : PySem.W.Frag} {mg : Str → Option Value} {base : Heap} {f C : Addr} {fd : FuncData}
end
end K14
namespace K14
open PySem PySem.Spec L2 Rt
open PyProof.Rows hiding St
/-! ### the heap without the source -/
def mask (d c : Addr) (H : Hp) : Hp := fun b => if b = d ∨ b = c then none else H b
section
variable {d c p : Addr} {H H' : Hp} {o : HO}
theorem mask_same : Same (mask d c H) H := fun b u e => by
  unfold mask at e
  split at e
  · cases e
  · exact e
theorem mask_keep (a : Keep d c H H') : Same (mask d c H) (mask d c H') := fun b u e => by
  unfold mask at e ⊢
  split at e
  · cases e
  · rename_i n
    rw [if_neg n]
    exact a b u e (fun z => n (.inl z)) (fun z => n (.inr z))
theorem mask_new (n : H p = none) : Same (mask d c H) (mask d c (upd H p o)) := mask_keep (Keep.refl.new n)
theorem mask_at (n : p ≠ d ∧ p ≠ c) (e : H p = some o) : mask d c H p = some o := by
  unfold mask
  rw [if_neg (fun z => z.elim n.1 n.2)]
  exact e
theorem Src.same (S : Src H d c) (s : Same H H') : Src H' d c := by
  obtain ⟨ks, l, m, u, h1, h2⟩ := S.ex
  exact ⟨ks, l, m, u, s _ _ h1, s _ _ h2⟩
end
structure Lw (mg : Str → Option Value) : Prop extends Wds mg, Rng mg where
  zabs : mg "abs" = none
  zrepr : mg "repr" = none
  zzip : mg "zip" = none
/-- the least number of a clock from x on, as the law goes -/
def upv (f s x : Int) : Int := f + (x - f + s - 1) / s * s
theorem upv_on (f s x : Int) : (upv f s x - f) % s = 0 := by
  unfold upv
  rw [show f + (x - f + s - 1) / s * s - f = s * ((x - f + s - 1) / s) by rw [Int.mul_comm s]; omega, Int.mul_emod_right]
theorem upv_le {f s x : Int} (h : 0 < s) : x ≤ upv f s x := by
  unfold upv
  have h1 := Int.emod_def (x - f + s - 1) s
  have h2 := Int.emod_lt_of_pos (x - f + s - 1) h
  rw [Int.mul_comm] at h1
  omega
theorem upv_lt {f s x : Int} (h : 0 < s) : upv f s x < x + s := by
  unfold upv
  have h1 := Int.emod_def (x - f + s - 1) s
  have h2 := Int.emod_nonneg (x - f + s - 1) (Int.ne_of_gt h)
  rw [Int.mul_comm] at h1
  omega
def spLUp : Sp := fun vs H Q _ => ∃ (t : Addr) (f s x : Int), vs = [.ref t, .int x] ∧ H t = some (.tup [.int f, .int s]) ∧ 0 < s ∧ s < 1000 ∧ Q (.int (upv f s x)) H
/-- the drawn net as the law keeps it -/
structure LNet (H : Hp) (n : Addr) (ps : List Pt) (rs : List Rl) : Prop where
  ex : ∃ (PA RA : Addr) (as bs : List Addr), H n = some (.dK [(Sum.inr "points", .ref PA), (Sum.inr "rules", .ref RA)]) ∧ H PA = some (.lst (as.map V.ref)) ∧ H RA = some (.lst (bs.map V.ref)) ∧ Row ptV H as ps ∧ Row rlV H bs rs
theorem LNet.same {H H' : Hp} {n : Addr} {ps : List Pt} {rs : List Rl} (h : LNet H n ps rs) (s : Same H H') : LNet H' n ps rs := by
  obtain ⟨PA, RA, as, bs, h1, h2, h3, h4, h5⟩ := h.ex
  exact ⟨PA, RA, as, bs, s _ _ h1, s _ _ h2, s _ _ h3, h4.same s, h5.same s⟩
theorem get_pts {H : Hp} {n PA RA : Addr} (h : H n = some (.dK [(Sum.inr "points", .ref PA), (Sum.inr "rules", .ref RA)])) : DGet H n (.str "points") (some (.ref PA)) := by
  have g := get_k (x := "points") h
  rwa [valV_pos rfl] at g
theorem get_rls {H : Hp} {n PA RA : Addr} (h : H n = some (.dK [(Sum.inr "points", .ref PA), (Sum.inr "rules", .ref RA)])) : DGet H n (.str "rules") (some (.ref RA)) := by
  have g := get_k (x := "rules") h
  rwa [valV_neg (ne_inr (by decide +kernel)), valV_pos rfl] at g
theorem flat_strs : ∀ l : List Str, (l.map V.str).all flatV = true
  | [] => rfl
  | _ :: l => flat_strs l
theorem eqV_str {x y : Str} : eqV (V.str x) (V.str y) = true ↔ x = y := by simp [eqV]
def spPlace : Sp := fun vs H Q _ => ∃ (n : Addr) (ps : List Pt) (rs : List Rl) (i : Nat) (x : Str), vs = [.ref n, .str x] ∧ LNet H n ps rs ∧ (namesOf ps).Nodup ∧ ps.length ≤ 100 ∧ (namesOf ps)[i]? = some x ∧ ∀ H', Same H H' → Q (.int i) H'
def spClockOf : Sp := fun vs H Q _ => ∃ (n : Addr) (ps : List Pt) (rs : List Rl) (i : Nat) (p : Pt), vs = [.ref n, .str p.1] ∧ LNet H n ps rs ∧ (namesOf ps).Nodup ∧ ps.length ≤ 100 ∧ ps[i]? = some p ∧ ∀ (t : Addr) (H' : Hp), Same H H' → H' t = some (.tup [.int p.2.1, .int p.2.2]) → Q (.ref t) H'
section
variable {P : Program} {w : World} {K : PySem.W.Frag} {mg : Str → Option Value} {base : Heap} {f : Addr} {fd : FuncData}
end
end K14
namespace K14
open PySem PySem.Spec L2 Rt
open PyProof.Rows hiding St
/-- the first number of times that comes out -/
theorem first_times {a s j : Nat} (ha : 0 < a) (no : ∀ i, i < j → ¬ s ∣ a * (i + 1)) (yes : s ∣ a * (j + 1)) : a * (j + 1) = Nat.lcm a s := by
  obtain ⟨q, hq⟩ := Nat.dvd_lcm_left a s
  have h1 : s ∣ a * q := hq ▸ Nat.dvd_lcm_right a s
  have h2 : Nat.lcm a s ∣ a * (j + 1) := Nat.lcm_dvd (Nat.dvd_mul_right a _) yes
  have h3 : a * q ≤ a * (j + 1) := hq ▸ Nat.le_of_dvd (Nat.mul_pos ha (Nat.succ_pos j)) h2
  have h4 : q ≤ j + 1 := Nat.le_of_mul_le_mul_left h3 ha
  rw [hq]
  rcases Nat.lt_or_ge q (j + 1) with lt | ge
  · cases q with
    | zero =>
      have z : a * (j + 1) = 0 := Nat.eq_zero_of_zero_dvd (by have := h2; rwa [hq, Nat.mul_zero] at this)
      exact absurd z (Nat.ne_of_gt (Nat.mul_pos ha (Nat.succ_pos j)))
    | succ i => exact absurd h1 (no i (by omega))
  · rw [show q = j + 1 by omega]
theorem mod_dvd (a j s : Nat) : (((a : Int) * ((1 : Int) + (j : Int))) % (s : Int) = 0) ↔ s ∣ a * (j + 1) := by
  rw [show (a : Int) * ((1 : Int) + (j : Int)) = ((a * (j + 1) : Nat) : Int) by rw [Int.natCast_mul]; congr 1; omega, ← Int.natCast_dvd_natCast, Int.dvd_iff_emod_eq_zero]
def spPeriod : Sp := fun vs H Q _ => ∃ (n : Addr) (ps : List Pt) (rs : List Rl) (M : Nat), vs = [.ref n] ∧ LNet H n ps rs ∧ (∀ p, p ∈ ps → 1 ≤ p.2.2 ∧ p.2.2 ≤ 60 ∧ p.2.2.toNat ∣ M) ∧ 0 < M ∧ M < 2 ^ 60 ∧ ∀ H', Same H H' → Q (.int (lcmOf ps)) H'
section
variable {P : Program} {w : World} {K : PySem.W.Frag} {mg : Str → Option Value} {base : Heap} {f : Addr} {fd : FuncData}
end
end K14
namespace K14
open PySem PySem.Spec L2 Rt
open PyProof.Rows hiding St
abbrev OkS (ss : List Int) : Prop := ss ≠ [] ∧ ss.length < 100 ∧ ∀ s, s ∈ ss → 1 ≤ s ∧ s ≤ 12 ∧ s.toNat ∣ 420
def StepMenu (M : Hp) (xs : List V) : Prop := ∀ v, v ∈ xs → ∃ p ss, v = .ref p ∧ M p = some (.lst (ss.map V.int)) ∧ OkS ss
theorem stN {M : Hp} : StepMenu M [] := fun _ h => nomatch h
theorem stC {M : Hp} {p : Addr} {xs : List V} (ss : List Int) (h : M p = some (.lst (ss.map V.int))) (ok : OkS ss) (r : StepMenu M xs) : StepMenu M (.ref p :: xs) := fun v m => by
  rcases List.mem_cons.mp m with e | m
  · subst e
    exact ⟨p, ss, rfl, h, ok⟩
  · exact r v m
def spSteps : Sp := fun vs H Q _ => ∃ (d c : Addr), vs = [.ref d] ∧ Src H d c ∧ ∀ (p : Addr) (ss : List Int) (H' : Hp), mask d c H' p = some (.lst (ss.map V.int)) → OkS ss → Src H' d c → Keep d c H H' → Q (.ref p) H'
section
variable {P : Program} {w : World} {K : PySem.W.Frag} {mg : Str → Option Value} {base : Heap} {f : Addr} {fd : FuncData}
end
end K14
namespace K14
open PySem PySem.Spec L2 Rt
open PyProof.Rows hiding St
theorem mask_but {d c D : Addr} {o : HO} {H : Hp} : Sbut D (mask d c H) (mask d c (upd H D o)) := fun b u e n => by
  unfold mask at e ⊢
  split at e
  · cases e
  · rename_i z
    rw [if_neg z, upd_ne n]
    exact e
theorem Row.snoc {α : Type} {f : α → HO} {H : Hp} {as : List Addr} {ps : List α} {a : Addr} {p : α} (r : Row f H as ps) (h : H a = some (f p)) : Row f H (as ++ [a]) (ps ++ [p]) := by
  refine ⟨by rw [List.length_append, List.length_append, r.1]; rfl, fun i b q h1 h2 => ?_⟩
  rcases Nat.lt_or_ge i as.length with lt | ge
  · rw [List.getElem?_append_left lt] at h1
    rw [List.getElem?_append_left (by rw [← r.1]; exact lt)] at h2
    exact r.2 i b q h1 h2
  · have e : i = as.length := by
      have := (List.getElem?_eq_some_iff.mp h1).1
      rw [List.length_append] at this
      simp at this
      omega
    rw [e, List.getElem?_append_right (Nat.le_refl _), Nat.sub_self] at h1
    rw [e, r.1, List.getElem?_append_right (Nat.le_refl _), Nat.sub_self] at h2
    cases h1
    cases h2
    exact h
theorem far_small {z : Int} (h : z ∈ ([6, 12, 25] : List Int)) : 6 ≤ z ∧ z ≤ 25 := by
  simp only [List.mem_cons, List.not_mem_nil, or_false] at h
  rcases h with e | e | e <;> subst e <;> decide
theorem less_small {z : Int} (h : z ∈ ([0, 0, 3, 9] : List Int)) : 0 ≤ z ∧ z ≤ 9 := by
  simp only [List.mem_cons, List.not_mem_nil, or_false] at h
  rcases h with e | e | e | e <;> subst e <;> decide
theorem str_at {ws : List Str} {i : Nat} {v : V} (h : (ws.map V.str)[i]? = some v) : ∃ x, v = .str x ∧ x ∈ ws := by
  rw [List.getElem?_map] at h
  cases e : ws[i]? with
  | none => rw [e] at h; cases h
  | some x =>
    rw [e] at h
    exact ⟨x, (Option.some.inj h).symm, List.mem_of_getElem? e⟩
theorem merge2 {a b : Str} {x y : V} (h : ¬ a = b) : mergeK [] [((Sum.inr a : Key), x), (Sum.inr b, y)] = [(Sum.inr a, x), (Sum.inr b, y)] := by
  have h1 := ne_inr h
  unfold mergeK putK
  simp [h1]
structure PtD (p : Pt) : Prop where
  s1 : 1 ≤ p.2.2
  s12 : p.2.2 ≤ 12
  dv : p.2.2.toNat ∣ 420
  f1 : -12 ≤ p.2.1
  f2 : p.2.1 ≤ 12
structure RlD (r : Rl) : Prop where
  l1 : -40 ≤ r.2.2
  l2 : r.2.2 ≤ 40
structure Drawn (ps : List Pt) (rs : List Rl) (most ties : Nat) : Prop where
  good : Good ps rs
  p0 : 0 < ps.length
  pm : ps.length ≤ most
  rm : rs.length ≤ ties
  pt : ∀ p, p ∈ ps → PtD p
  rl : ∀ r, r ∈ rs → RlD r
def spNet : Sp := fun vs H Q _ => ∃ (d c : Addr) (most ties : Nat), vs = [.ref d, .int most, .int ties] ∧ Src H d c ∧ 1 ≤ most ∧ most ≤ 50 ∧ ties ≤ 50 ∧
  ∀ (n : Addr) (ps : List Pt) (rs : List Rl) (H' : Hp), LNet (mask d c H') n ps rs → Drawn ps rs most ties → Src H' d c → Keep d c H H' → Q (.ref n) H'
section
variable {P : Program} {w : World} {K : PySem.W.Frag} {mg : Str → Option Value} {base : Heap} {f : Addr} {fd : FuncData}
end
end K14
/-! own mathematics: rising over rules comes to its end within so many laps as there are numbers, or there is no timetable -/
namespace Rise
def upc (f s x : Int) : Int := f + (x - f + s - 1) / s * s
theorem upc_on (f s x : Int) : (upc f s x - f) % s = 0 := by
  unfold upc
  rw [show f + (x - f + s - 1) / s * s - f = (x - f + s - 1) / s * s by omega]
  exact Int.mul_emod_left _ _
theorem upc_ge {f s x : Int} (h : 0 < s) : x ≤ upc f s x := by
  unfold upc
  have e := Int.emod_add_mul_ediv (x - f + s - 1) s
  have l := Int.emod_lt_of_pos (x - f + s - 1) h
  rw [Int.mul_comm] at e
  omega
theorem upc_lt {f s x : Int} (h : 0 < s) : upc f s x < x + s := by
  unfold upc
  have e := Int.emod_add_mul_ediv (x - f + s - 1) s
  have l := Int.emod_nonneg (x - f + s - 1) (Int.ne_of_gt h)
  rw [Int.mul_comm] at e
  omega
/-- two numbers of a clock that are less than a step apart -/
theorem near_le {f s a b : Int} (h : 0 < s) (ha : (a - f) % s = 0) (hb : (b - f) % s = 0) (lt : a < b + s) : a ≤ b := by
  obtain ⟨i, hi⟩ := Int.dvd_of_emod_eq_zero ha
  obtain ⟨j, hj⟩ := Int.dvd_of_emod_eq_zero hb
  have e : a - b = s * (i - j) := by rw [Int.mul_sub]; omega
  have l : s * (i - j) < s * 1 := by rw [← e, Int.mul_one]; omega
  have q := Int.lt_of_mul_lt_mul_left l (Int.le_of_lt h)
  have : s * (i - j) ≤ s * 0 := Int.mul_le_mul_of_nonneg_left (by omega) (Int.le_of_lt h)
  rw [Int.mul_zero] at this
  omega
theorem upc_least {f s x z : Int} (h : 0 < s) (le : x ≤ z) (on : (z - f) % s = 0) : upc f s x ≤ z :=
  near_le h (upc_on f s x) on (by have := upc_lt (f := f) (x := x) h; omega)
theorem on_add {f s z N K : Int} (d : s ∣ N) (on : (z - f) % s = 0) : (z - K * N - f) % s = 0 := by
  obtain ⟨q, rfl⟩ := d
  rw [show z - K * (s * q) - f = (z - f) - s * (K * q) by rw [show K * (s * q) = s * (K * q) by rw [Int.mul_left_comm]]; omega]
  obtain ⟨i, hi⟩ := Int.dvd_of_emod_eq_zero on
  rw [hi, ← Int.mul_sub]
  exact Int.mul_emod_right _ _
theorem nodup_len : ∀ (M : Nat) (l : List Nat), l.Nodup → (∀ x, x ∈ l → x < M) → l.length ≤ M
  | 0, l, _, h => by
    cases l with
    | nil => exact Nat.le_refl _
    | cons x l => exact absurd (h x List.mem_cons_self) (Nat.not_lt_zero _)
  | M + 1, l, nd, h => by
    have q := nodup_len M (l.erase M) (List.Nodup.erase M nd) (fun x m => by
      have z := (List.Nodup.mem_erase_iff nd).mp m
      have := h x z.2
      have := z.1
      omega)
    rw [List.length_erase] at q
    split at q <;> omega
def code (N : Nat) (a : Nat × Int) : Nat := a.1 * N + (a.2 % (N : Int)).toNat
theorem code_inj {N : Nat} (h : 0 < N) {p q : Nat} {x y : Int} (e : code N (p, x) = code N (q, y)) : p = q ∧ x % (N : Int) = y % (N : Int) := by
  unfold code at e
  have b1 := Int.emod_nonneg x (show (N : Int) ≠ 0 by omega)
  have b2 := Int.emod_nonneg y (show (N : Int) ≠ 0 by omega)
  have c1 := Int.emod_lt_of_pos x (show (0 : Int) < N by omega)
  have c2 := Int.emod_lt_of_pos y (show (0 : Int) < N by omega)
  simp only at e
  have r1 : (x % (N : Int)).toNat < N := by omega
  have r2 : (y % (N : Int)).toNat < N := by omega
  have m1 : (p * N + (x % (N : Int)).toNat) % N = (x % (N : Int)).toNat := by rw [Nat.mul_comm, Nat.mul_add_mod, Nat.mod_eq_of_lt r1]
  have m2 : (q * N + (y % (N : Int)).toNat) % N = (y % (N : Int)).toNat := by rw [Nat.mul_comm, Nat.mul_add_mod, Nat.mod_eq_of_lt r2]
  rw [e, m2] at m1
  have pq : p * N = q * N := by omega
  exact ⟨Nat.eq_of_mul_eq_mul_right h pq, by omega⟩
section
variable {n N : Nat} {f s T : Nat → Int}
/-- how a number has come: a row of numbers, each led to by the next one -/
structure Chain (n N : Nat) (T X : Nat → Int) (p k : Nat) : Prop where
  ex : ∃ c : List (Nat × Int), c.length = k + 1 ∧ (∀ a, a ∈ c → a.1 < n ∧ a.2 ≤ X a.1 ∧ ∀ K : Int, a.2 + K * N ≤ T a.1 → X p + K * N ≤ T p) ∧ (c.map (code N)).Nodup
theorem Chain.start {X : Nat → Int} {p : Nat} (h : p < n) : Chain n N T X p 0 :=
  ⟨[(p, X p)], rfl, fun a m => by cases List.mem_singleton.mp m; exact ⟨h, Int.le_refl _, fun K z => z⟩, by simp⟩
theorem Chain.bound {X : Nat → Int} {p k : Nat} (h0 : 0 < N) (h : Chain n N T X p k) : k + 1 ≤ n * N := by
  obtain ⟨c, l, a, nd⟩ := h.ex
  have q := nodup_len (n * N) (c.map (code N)) nd (fun x m => by
    obtain ⟨b, hb, rfl⟩ := List.mem_map.mp m
    have hb1 := (a b hb).1
    unfold code
    have c2 := Int.emod_lt_of_pos b.2 (show (0 : Int) < N by omega)
    have b2 := Int.emod_nonneg b.2 (show (N : Int) ≠ 0 by omega)
    have : (b.1 + 1) * N ≤ n * N := Nat.mul_le_mul_right N hb1
    rw [Nat.add_mul, Nat.one_mul] at this
    omega)
  rw [List.length_map, l] at q
  exact q
theorem Chain.keep {X Y : Nat → Int} {p k : Nat} (h : Chain n N T X p k) (up : ∀ q, X q ≤ Y q) (e : Y p = X p) : Chain n N T Y p k := by
  obtain ⟨c, l, a, nd⟩ := h.ex
  refine ⟨c, l, fun b m => ?_, nd⟩
  obtain ⟨a1, a2, a3⟩ := a b m
  exact ⟨a1, Int.le_trans a2 (up _), fun K z => by rw [e]; exact a3 K z⟩
theorem Chain.raise {X Y : Nat → Int} {p q k : Nat} {l : Int} (h0 : 0 < N) (hp : p < n) (sp : 0 < s p) (sd : s p ∣ (N : Int)) (tp : (T p - f p) % s p = 0) (ok : T q + l ≤ T p) (h : Chain n N T X q k)
    (gt : X p < upc (f p) (s p) (X q + l)) (e : Y p = upc (f p) (s p) (X q + l)) (up : ∀ q, X q ≤ Y q) : Chain n N T Y p (k + 1) := by
  obtain ⟨c, lc, a, nd⟩ := h.ex
  have led : ∀ K : Int, X q + K * N ≤ T q → Y p + K * N ≤ T p := fun K z => by
    rw [e]
    have := upc_least (x := X q + l) (z := T p - K * N) sp (by omega) (on_add sd tp)
    omega
  refine ⟨(p, Y p) :: c, by rw [List.length_cons, lc], fun b m => ?_, ?_⟩
  · rcases List.mem_cons.mp m with rfl | m
    · exact ⟨hp, Int.le_refl _, fun K z => z⟩
    · obtain ⟨a1, a2, a3⟩ := a b m
      exact ⟨a1, Int.le_trans a2 (up _), fun K z => led K (a3 K z)⟩
  · rw [List.map_cons, List.nodup_cons]
    refine ⟨fun m => ?_, nd⟩
    obtain ⟨b, hb, eb⟩ := List.mem_map.mp m
    obtain ⟨a1, a2, a3⟩ := a b hb
    obtain ⟨b1, b2⟩ := b
    obtain ⟨rfl, em⟩ := code_inj h0 eb
    simp only at a2 a3
    have lt : b2 < Y b1 := by rw [e]; omega
    have d : (N : Int) ∣ Y b1 - b2 := Int.dvd_of_emod_eq_zero (Int.emod_eq_emod_iff_emod_sub_eq_zero.mp em.symm)
    have le : (N : Int) ≤ Y b1 - b2 := Int.le_of_dvd (by omega) d
    have z1 := Int.emod_add_mul_ediv (T b1 - b2) (N : Int)
    have z2 := Int.emod_nonneg (T b1 - b2) (show (N : Int) ≠ 0 by omega)
    have z3 := Int.emod_lt_of_pos (T b1 - b2) (show (0 : Int) < N by omega)
    rw [Int.mul_comm] at z1
    have w := led _ (a3 ((T b1 - b2) / (N : Int)) (by omega))
    omega
/-- what stands in a lap: each rule is kept, or a number ahead of it has come far -/
structure Lap (n N : Nat) (T : Nat → Int) (RA : Nat → Nat → Nat → Int → Prop) (X : Nat → Int) (m t : Nat) : Prop where
  ex : ∃ L : Nat → Nat, (∀ p, p < n → Chain n N T X p (L p)) ∧ ∀ k i j l, RA k i j l → X i + l ≤ X j ∨ (if k < t then m + 1 else m) ≤ L i
variable {RA : Nat → Nat → Nat → Int → Prop}
theorem Lap.start {X : Nat → Int} : Lap n N T RA X 0 0 := ⟨fun _ => 0, fun p h => Chain.start h, fun k i j l _ => .inr (by simp)⟩
theorem Lap.next {X : Nat → Int} {m t : Nat} (h : Lap n N T RA X m t) (all : ∀ k i j l, RA k i j l → k < t) : Lap n N T RA X (m + 1) 0 := by
  obtain ⟨L, h1, h2⟩ := h.ex
  refine ⟨L, h1, fun k i j l r => ?_⟩
  have := h2 k i j l r
  rw [if_pos (all k i j l r)] at this
  simpa using this
theorem Lap.still {X : Nat → Int} {m t i j : Nat} {l : Int} (h : Lap n N T RA X m t) (uniq : ∀ i' j' l', RA t i' j' l' → i' = i ∧ j' = j ∧ l' = l) (le : X i + l ≤ X j) : Lap n N T RA X m (t + 1) := by
  obtain ⟨L, h1, h2⟩ := h.ex
  refine ⟨L, h1, fun k i' j' l' r => ?_⟩
  by_cases e : k = t
  · subst e
    obtain ⟨rfl, rfl, rfl⟩ := uniq _ _ _ r
    exact .inl le
  · rcases h2 k i' j' l' r with z | z
    · exact .inl z
    · refine .inr ?_
      by_cases lt : k < t
      · rw [if_pos lt] at z
        rw [if_pos (by omega)]
        exact z
      · rw [if_neg lt] at z
        rw [if_neg (by omega)]
        exact z
theorem Lap.raise {X Y : Nat → Int} {m t i j : Nat} {l : Int} (h0 : 0 < N) (h : Lap n N T RA X m t) (r : RA t i j l) (uniq : ∀ i' j' l', RA t i' j' l' → i' = i ∧ j' = j ∧ l' = l) (hi : i < n) (hj : j < n)
    (sp : 0 < s j) (sd : s j ∣ (N : Int)) (tp : (T j - f j) % s j = 0) (ok : T i + l ≤ T j) (on : (X j - f j) % s j = 0)
    (gt : X j < upc (f j) (s j) (X i + l)) (e : Y j = upc (f j) (s j) (X i + l)) (same : ∀ q, q ≠ j → Y q = X q) : Lap n N T RA Y m (t + 1) ∧ m + 2 ≤ n * N := by
  obtain ⟨L, h1, h2⟩ := h.ex
  have up : ∀ q, X q ≤ Y q := fun q => by
    by_cases z : q = j
    · subst z
      rw [e]
      omega
    · rw [same q z]
      exact Int.le_refl _
  have far : m ≤ L i := by
    rcases h2 t i j l r with z | z
    · exact absurd (upc_least sp z on) (by omega)
    · rw [if_neg (by omega)] at z
      exact z
  have ch := (h1 i hi).raise h0 hj sp sd tp ok gt e up
  refine ⟨⟨fun q => if q = j then L i + 1 else L q, fun p hp => ?_, fun k i' j' l' r' => ?_⟩, ?_⟩
  · by_cases z : p = j
    · subst z
      simp only [if_true]
      exact ch
    · simp only [if_neg z]
      exact (h1 p hp).keep up (same p z)
  · by_cases z : i' = j
    · right
      simp only [if_pos z]
      split <;> omega
    · simp only [if_neg z]
      rw [same i' z]
      by_cases et : k = t
      · subst et
        obtain ⟨rfl, rfl, rfl⟩ := uniq _ _ _ r'
        left
        rw [e]
        exact upc_ge sp
      · rcases h2 k i' j' l' r' with y | y
        · exact .inl (Int.le_trans y (up _))
        · right
          by_cases lt : k < t
          · rw [if_pos lt] at y
            rw [if_pos (by omega)]
            exact y
          · rw [if_neg lt] at y
            rw [if_neg (by omega)]
            exact y
  · have := ch.bound h0
    omega
end
end Rise
namespace K14
open PySem PySem.Spec L2 Rt
open PyProof.Rows hiding St
structure Tab (ps : List Pt) (rs : List Rl) (xs : List Int) : Prop where
  len : xs.length = ps.length
  on : ∀ j, j < ps.length → onAt ps (xs.map V.int) j
  keep : ∀ j, j < rs.length → keepsAt ps rs (xs.map V.int) j
  lo : ∀ x, x ∈ xs → -100000000 ≤ x
  hi : ∀ x, x ∈ xs → x ≤ 100000000
theorem eqvAll_ints : ∀ xs ys : List Int, PyData.eqvAll (xs.map PyData.int) (ys.map PyData.int) = decide (xs = ys)
  | [], [] => by simp [PyData.eqvAll]
  | [], _ :: _ => by simp [PyData.eqvAll]
  | _ :: _, [] => by simp [PyData.eqvAll]
  | x :: xs, y :: ys => by
    have h := eqvAll_ints xs ys
    have e : (x == y) = decide (x = y) := by
      rw [Bool.eq_iff_iff]
      simp
    simp [PyData.eqvAll, PyData.eqv, h, e]
theorem eqv_ints (xs ys : List Int) : PyData.eqv (.list (xs.map PyData.int)) (.list (ys.map PyData.int)) = decide (xs = ys) := by
  simp [PyData.eqv, eqvAll_ints]
theorem dpAll_ints {K : PySem.W.Frag} {H : Hp} : ∀ ks : List Int, DpAll K H (ks.map V.int) (ks.map PyData.int)
  | [] => .nil
  | k :: ks => .cons (.int k) (dpAll_ints ks)
theorem lay_ints : ∀ ks : List Int, PyData.canLayAll0 (ks.map PyData.int) = true
  | [] => by simp [PyData.canLayAll0]
  | k :: ks => by
    have h := lay_ints ks
    simp [PyData.canLayAll0, PyData.canLay0, h]
theorem depth_ints : ∀ ks : List Int, PyData.depthAll (ks.map PyData.int) = 0
  | [] => by simp [PyData.depthAll]
  | k :: ks => by
    have h := depth_ints ks
    simp [PyData.depthAll, PyData.depth, h]
theorem shaped_ints (ks : List Int) : SeqAt.shaped (.list (ks.map PyData.int)) = true := by
  unfold SeqAt.shaped
  simp [PyData.canLay0, lay_ints, PyData.depth, depth_ints]
/-- from an old row to one that is nowhere less: setting one place higher -/
structure Above (xs ys : List Int) : Prop where
  len : ys.length = xs.length
  le : ∀ (k : Nat) (a b : Int), xs[k]? = some a → ys[k]? = some b → a ≤ b
theorem Above.refl (xs : List Int) : Above xs xs := ⟨rfl, fun k a b h1 h2 => by cases h1.symm.trans h2; exact Int.le_refl _⟩
theorem Above.set {xs ys : List Int} {k : Nat} {v b : Int} (h : Above xs ys) (hb : ys[k]? = some b) (le : b ≤ v) : Above xs (ys.set k v) := by
  refine ⟨by rw [List.length_set]; exact h.len, fun m a c h1 h2 => ?_⟩
  rw [List.getElem?_set] at h2
  split at h2
  · rename_i e
    subst e
    split at h2
    · cases h2
      exact Int.le_trans (h.le _ _ _ h1 hb) le
    · cases h2
  · exact h.le _ _ _ h1 h2
theorem Above.back {xs ys : List Int} {k : Nat} {v b : Int} (h : Above xs ys) (hb : ys[k]? = some b) (le : b ≤ v) (e : ys.set k v = xs) : ys = xs := by
  refine List.ext_getElem? fun m => ?_
  by_cases z : k = m
  · subst z
    have hk := (List.getElem?_eq_some_iff.mp hb).1
    have h1 : xs[k]? = some v := by
      rw [← e, List.getElem?_set_self hk]
    have h2 := h.le k v b h1 hb
    rw [hb, h1, show b = v by omega]
  · rw [← e, List.getElem?_set_ne z]
theorem int_get {ys : List Int} {i : Nat} {z : Int} (h : (ys.map V.int)[i]? = some (V.int z)) : ys[i]? = some z := by
  obtain ⟨y, hy, e⟩ := int_at h
  cases e
  exact hy
theorem dvd_foldl {p : Pt} : ∀ (ps : List Pt) (l : Nat), (p ∈ ps ∨ p.2.2.toNat ∣ l) → p.2.2.toNat ∣ ps.foldl (fun l p => Nat.lcm l p.2.2.toNat) l
  | [], _, h => h.elim (fun z => nomatch z) id
  | q :: ps, l, h => dvd_foldl ps _ (by
    rcases h with h | h
    · rcases List.mem_cons.mp h with rfl | h
      · exact .inr (Nat.dvd_lcm_right _ _)
      · exact .inl h
    · exact .inr (Nat.dvd_trans h (Nat.dvd_lcm_left _ _)))
theorem dvd_lcmOf {ps : List Pt} {p : Pt} (h : p ∈ ps) : p.2.2.toNat ∣ lcmOf ps := dvd_foldl ps 1 (.inl h)
theorem lcm_pos {M : Nat} (ps : List Pt) (h : ∀ p, p ∈ ps → p.2.2.toNat ∣ M) (h0 : 0 < M) : 0 < lcmOf ps := Nat.pos_of_dvd_of_pos (lcm_dvd ps 1 (Nat.one_dvd M) h) h0
/-! ### the numbers of a network, by place -/
def fN (ps : List Pt) (p : Nat) : Int := match ps[p]? with | some q => q.2.1 | none => 0
def sN (ps : List Pt) (p : Nat) : Int := match ps[p]? with | some q => q.2.2 | none => 1
def xN (xs : List Int) (p : Nat) : Int := xs.getD p 0
def RuleAt (ps : List Pt) (rs : List Rl) (k i j : Nat) (l : Int) : Prop := ∃ r, rs[k]? = some r ∧ (namesOf ps)[i]? = some r.1 ∧ (namesOf ps)[j]? = some r.2.1 ∧ l = r.2.2
theorem fN_at {ps : List Pt} {p : Nat} {q : Pt} (h : ps[p]? = some q) : fN ps p = q.2.1 := by unfold fN; rw [h]
theorem sN_at {ps : List Pt} {p : Nat} {q : Pt} (h : ps[p]? = some q) : sN ps p = q.2.2 := by unfold sN; rw [h]
theorem xN_at {xs : List Int} {p : Nat} {z : Int} (h : xs[p]? = some z) : xN xs p = z := by unfold xN; rw [List.getD_eq_getElem?_getD, h]; rfl
theorem xN_set {xs : List Int} {p : Nat} {z v : Int} (h : xs[p]? = some z) : xN (xs.set p v) p = v := xN_at (by rw [List.getElem?_set_self (List.getElem?_eq_some_iff.mp h).1])
theorem xN_other {xs : List Int} {p q : Nat} {v : Int} (h : q ≠ p) : xN (xs.set p v) q = xN xs q := by
  unfold xN
  rw [List.getD_eq_getElem?_getD, List.getD_eq_getElem?_getD, List.getElem?_set_ne (Ne.symm h)]
theorem set_self {xs : List Int} {p : Nat} {z : Int} (h : xs[p]? = some z) : xs.set p z = xs := by
  refine List.ext_getElem? fun m => ?_
  by_cases e : p = m
  · subst e
    rw [List.getElem?_set_self (List.getElem?_eq_some_iff.mp h).1, h]
  · rw [List.getElem?_set_ne e]
theorem Tab.at_ {ps : List Pt} {rs : List Rl} {zs : List Int} (t : Tab ps rs zs) {j : Nat} (h : j < ps.length) : (xN zs j - fN ps j) % sN ps j = 0 := by
  obtain ⟨p, x, h1, h2, h3⟩ := t.on j h
  have e : ∃ z, x = V.int z := by
    rw [List.getElem?_map] at h2
    cases q : zs[j]? with
    | none => rw [q] at h2; cases h2
    | some z => rw [q] at h2; exact ⟨z, (Option.some.inj h2).symm⟩
  obtain ⟨z, rfl⟩ := e
  have q : zs[j]? = some z := by
    rw [List.getElem?_map] at h2
    cases q : zs[j]? with
    | none => rw [q] at h2; cases h2
    | some y => rw [q] at h2; cases h2; rfl
  rw [xN_at q, fN_at h1, sN_at h1]
  exact of_decide_eq_true h3
theorem Tab.kept {ps : List Pt} {rs : List Rl} {zs : List Int} (nd : (namesOf ps).Nodup) (t : Tab ps rs zs) {k i j : Nat} {l : Int} (r : RuleAt ps rs k i j l) : xN zs i + l ≤ xN zs j := by
  obtain ⟨r, h1, h2, h3, rfl⟩ := r
  obtain ⟨r', a, b, g1, ⟨i', j', g2, g3, g4, g5⟩, g6⟩ := t.keep k (List.getElem?_eq_some_iff.mp h1).1
  cases h1.symm.trans g1
  cases name_uniq nd h2 g2
  cases name_uniq nd h3 g3
  have e : ∀ {m : Nat} {c : Int}, (zs.map V.int)[m]? = some (V.int c) → xN zs m = c := fun {m c} h => by
    rw [List.getElem?_map] at h
    cases q : zs[m]? with
    | none => rw [q] at h; cases h
    | some y => rw [q] at h; cases h; exact xN_at q
  rw [e g4, e g5]
  exact g6
def spRisen : Sp := fun vs H Q _ => ∃ (n fl : Addr) (ps : List Pt) (rs : List Rl) (fs : List Int) (most ties : Nat), vs = [.ref n, .ref fl] ∧ LNet H n ps rs ∧ Drawn ps rs most ties ∧ most ≤ 50 ∧ ties ≤ 50 ∧ H fl = some (.lst (fs.map V.int)) ∧ fs.length = ps.length ∧ (∀ x, x ∈ fs → -100 ≤ x ∧ x ≤ 100) ∧
  ∀ (v : V) (H' : Hp), Same H H' → (v = .non ∧ ¬ ∃ zs, Tab ps rs zs) ∨ (∃ (t : Addr) (xs : List Int), v = .ref t ∧ H' t = some (.tup (xs.map V.int)) ∧ Tab ps rs xs) → Q v H'
section
variable {P : Program} {w : World} {K : PySem.W.Frag} {mg : Str → Option Value} {base : Heap} {f : Addr} {fd : FuncData}
end
end K14
namespace Rt
open PySem PySem.Spec L2
open PyProof.Rows hiding St
/-! ### methods and makers as the top has left them -/
structure MAt (K : PySem.W.Frag) (C : Addr) (m qual : Str) (st : Stmt) : Prop where
  ex : ∃ (f : Addr) (fd : FuncData), Meth K C m f ∧ Fun K m qual st f fd
structure MkAt (K : PySem.W.Frag) (mg : Str → Option Value) (x : Str) (C : Addr) (qual : Str) (st : Stmt) : Prop where
  ex : ∃ (f : Addr) (fd : FuncData), L2.Mk K C f ∧ mg x = some (.ref C) ∧ Fun K "__init__" qual st f fd
section
variable {P : Program} {w : World} {K : PySem.W.Frag} {mg : Str → Option Value} {base h : Heap} {x m qual : Str} {st : Stmt} {C : Addr}
theorem mat_mk {f : Addr} {oc kV dc pm cd ct : Value} {od an : Option Addr} {sl : Array (Option Value)} (a : PySem.W.findIn K (.ref C) m = some (some (.ref f))) (i : PySem.W.isFn K (.ref f) = true)
    (l : K.lookup f = some ⟨oc, od, .func (PySem.W.fnOf m qual (defArgs st) (defBody st) (defScope st) .none kV dc pm an cd ct), sl⟩) (c : PySem.W.codeIn K cd qual = true) (k : PySem.W.keepIn K (.ref f) = true) : MAt K C m qual st :=
  ⟨f, _, ⟨a, i, k⟩, fun_mk l c k⟩
theorem mkat_mk {f : Addr} {oc kV dc pm cd ct : Value} {od an : Option Addr} {sl : Array (Option Value)} (X : K.In h) (G : h.Ns mainGlobals mg) (n : PySem.W.nsIn K mainGlobals x = some (some (.ref C))) (mk : PySem.W.makesIn K C = true) (kc : PySem.W.keepIn K (.ref C) = true)
    (a : PySem.W.findIn K (.ref C) "__init__" = some (some (.ref f))) (i : PySem.W.isFn K (.ref f) = true)
    (l : K.lookup f = some ⟨oc, od, .func (PySem.W.fnOf "__init__" qual (defArgs st) (defBody st) (defScope st) .none kV dc pm an cd ct), sl⟩) (c : PySem.W.codeIn K cd qual = true) (k : PySem.W.keepIn K (.ref f) = true) : MkAt K mg x C qual st :=
  ⟨f, _, ⟨mk, a, i, kc⟩, PySem.W.mg_of X G n, fun_mk l c k⟩
theorem MAt.md {k : Nat} {ps : List Str} {sp : Sp} (A : MAt K C m qual st) (ok : ∀ (f : Addr) (fd : FuncData), Fun K m qual st f fd → FnOk P w K mg base CX0 k f fd ps sp)
    (bd : ∀ (f : Addr) (fd : FuncData), Fun K m qual st f fd → Binds K fd ps []) : Md P w K mg base k C m sp := by
  obtain ⟨f, fd, h, F⟩ := A.ex
  exact ⟨f, fd, ps, h, ok f fd F, bd f fd F⟩
theorem MkAt.mkr {k : Nat} {ps : List Str} {sp : Sp} (A : MkAt K mg x C qual st) (ok : ∀ (f : Addr) (fd : FuncData), Fun K "__init__" qual st f fd → FnOk P w K mg base CX0 k f fd ps sp)
    (bd : ∀ (f : Addr) (fd : FuncData), Fun K "__init__" qual st f fd → Binds K fd ps []) : Mkr P w K mg base k C x sp := by
  obtain ⟨f, fd, h, n, F⟩ := A.ex
  exact ⟨f, fd, ps, h, n, ok f fd F, bd f fd F⟩
end
end Rt
namespace Rt
open PySem PySem.Spec L2
open PyProof.Rows hiding St
/-! ### == and != by a class's own methods -/
def rOwn (C : Addr) (sp : Sp) : R2 := fun x y H Q => ∃ (a b dx dy : Addr) (fs gs : List (Str × V)), x = .ref a ∧ y = .ref b ∧ H a = some (.ins C dx fs) ∧ H b = some (.ins C dy gs) ∧ sp [.ref a, .ref b] H (fun v H' => ∃ c : Bool, v = .bl c ∧ Q (.bl c) H') E0
section
variable {X : Cx} {k j : Nat} {C : Addr} {sp : Sp}
theorem rc_own {op : CmpOp} {m : Str} (hm : (cmpInfo op).2.1 = m) (M : Md X.prog X.w X.K X.mg X.base k C m sp) (hr : Room j X.A) (hk : k ≤ j) {pins : List (Addr × Obj)} {s : Shared} {σ : L2.St} {H : Hp} {x y : V} {u v : Value} {Q : VK}
    (I : Inv X pins σ H s) (rx : L2.RelV x u) (ry : L2.RelV y v) (d : rOwn C sp x y H Q) : wpAny (model X.prog X.w) X.A (richCompare op u v) (EP X pins σ Q) X.xe s := by
  obtain ⟨a, b, dx, dy, fs, gs, rfl, rfl, ha, hb', hsp⟩ := d
  obtain ⟨f, fd, ps, mt, F, hb⟩ := M.ex
  cases rx
  cases ry
  obtain ⟨mA, J, _⟩ := ins_get I.hok ha
  obtain ⟨mB, J', _⟩ := ins_get I.hok hb'
  obtain ⟨od, J, _⟩ := J.look
  obtain ⟨od', J', _⟩ := J'.look
  obtain ⟨mm, hF⟩ := I.fr
  have hr' := hr.mono hk
  refine PySem.W.cmp_K (op := op) (tb := .ref C) hr'.units0 hF I.ok.mod.kin J J'.type (by simp [PySem.W.notFirst]) (by rw [hm]; exact mt.at_) mt.fn ?_
  have hl := F.len _ _ _ _ hsp
  have r2 : Vals [V.ref a, V.ref b] [Value.ref a, Value.ref b] := .cons rfl (.cons rfl .nil)
  refine wpAny_call (codeAny_mono (F.run X.A X.stack s H ⟨[.ref a, .ref b], []⟩ [.ref a, .ref b] [.ref a, .ref b] _ E0 hr' I.env0 (by
    have := hb s [.ref a, .ref b] I.kIn (by simpa using hl)
    simpa using this) r2 hsp) fun r s' hq => ?_)
  cases r with
  | error e => exact False.elim hq
  | ok fl =>
    cases fl with
    | ret w =>
      obtain ⟨z, H', I', rz, c, rfl, q⟩ := I.after hq
      cases rz
      exact ⟨.bl c, H', I', rfl, q⟩
    | next => exact False.elim hq
    | brk => exact False.elim hq
    | cont => exact False.elim hq
theorem op_ownEq (M : Md X.prog X.w X.K X.mg X.base k C "__eq__" sp) (hr : Room j X.A) (hk : k ≤ j) : OpR X (compareOp .Eq) (rOwn C sp) := by
  intro pins s σ H x y v u Q I rx ry hq
  show wpAny (model X.prog X.w) X.A (richCompare .Eq v u) (EP X pins σ Q) X.xe s
  exact rc_own rfl M hr hk I rx ry hq
theorem op_ownNe (M : Md X.prog X.w X.K X.mg X.base k C "__ne__" sp) (hr : Room j X.A) (hk : k ≤ j) : OpR X (compareOp .NotEq) (rOwn C sp) := by
  intro pins s σ H x y v u Q I rx ry hq
  show wpAny (model X.prog X.w) X.A (richCompare .NotEq v u) (EP X pins σ Q) X.xe s
  exact rc_own rfl M hr hk I rx ry hq
end
/-! ### list(range(a, b, c)) -/
def rgC (a c : Int) (n : Nat) : List V := (List.range n).map fun i => V.int (a + (i : Nat) * c)
theorem rgC_length (a c : Int) (n : Nat) : (rgC a c n).length = n := by unfold rgC; rw [List.length_map, List.length_range]
theorem vals_rgC {a c : Int} {n : Nat} {acc : Array Value} (h : ItemsOf (fun i v => ∃ t, v = .int (a + i * c) t) acc n) : Vals (rgC a c n) acc.toList := by
  have e : acc.toList.length = n := by rw [Array.length_toList]; exact h.1
  unfold rgC
  rw [← e]
  refine vals_of_get acc.toList _ fun j u hj => ?_
  obtain ⟨t, rfl⟩ := h.2 j u (by rw [← hj, Array.getElem?_toList])
  exact ⟨t, rfl⟩
def tLstRg3 (ta : TA) : TE := fun σ H Q => ta σ H fun vs H1 => ∃ (i j c : Int) (n : Nat), vs = [.int i, .int j, .int c] ∧ RgC i j c n ∧ n ≤ 2 ^ 23 ∧ ∀ q, H1 q = none → Q (.ref q) (upd H1 q (.lst (rgC i c n)))
section
variable {X : Cx} {a b c : Expr} {ta : TA} {p pos p2 pos2 : Pos}
theorem pe_listRg3 (hc : X.calm = true) (hg : Gl X "list") (hm : X.mg "list" = none) (hg2 : Gl X "range") (hm2 : X.mg "range" = none) (ha : PA X [a, b, c] ta)
    (hs : starEach [a, b, c] X.env = (false, eval a X.env) :: starEach [b, c] X.env := by rfl) (hpl : (backTo pos (starEach [b, c] X.env)).any (·.1) = false := by rfl)
    (na : starEach [.Call (.Name "range" p) [a, b, c] [] pos] X.env = (false, eval (.Call (.Name "range" p) [a, b, c] [] pos) X.env) :: starEach [] X.env := by rfl) :
    PE X (.Call (.Name "list" p2) [.Call (.Name "range" p) [a, b, c] [] pos] [] pos2) (tLstRg3 ta) := by
  refine ⟨fun pins s σ H Q I h => ?_⟩
  have inner : wpAny (model X.prog X.w) X.A (eval (.Call (.Name "range" p) [a, b, c] [] pos) X.env) (fun x s' => ∃ r i j k n t u v H', x = .ref r ∧ IsRange s'.heap r i j k t u v ∧ Inv X pins σ H' s' ∧ RgC i j k n ∧ n ≤ 2 ^ 23 ∧ ∀ q, H' q = none → Q (.ref q) (upd H' q (.lst (rgC i k n)))) X.xe s := by
    refine Call_ (ld_blt I hg2 hm2 boot_range (PyProof.Rows.callWith_type1 (thn (ha.run pos pins s σ H _ I h) fun us s1 ⟨vs, H1, I1, r1, q1⟩ => ?_) hs hpl))
    obtain ⟨i, j, k, n, e, ⟨c0, c1, c2, c3⟩, c4, q⟩ := q1
    subst e
    cases r1 with
    | cons r rr =>
      cases rr with
      | cons r' rr =>
        cases rr with
        | cons r'' rr =>
          cases rr
          obtain ⟨t, rfl⟩ := r
          obtain ⟨t', rfl⟩ := r'
          obtain ⟨t'', rfl⟩ := r''
          refine call_range_3 c0 ?_ (.inl (PyProof.noPylong_small c1))
          exact ⟨_, i, j, k, n, _, _, _, H1, rfl, IsRange.new _ _ _ _ _ _ _, I1.kept (t' := s1.toks) fun b o e => Heap.get?_push_of_some _ e, ⟨c0, c1, c2, c3⟩, c4, q⟩
  refine Call_ (ld_blt I hg hm boot_list (PyProof.Rows.callWith_type1 (args_cons (thn inner fun x s1 ⟨r, i, j, k, n, t, u, v, H1, ex, hr, I1, ok, le, q⟩ => args_nil ?_) na) na))
  subst ex
  obtain ⟨b1, b2, b3, b4⟩ := ok
  refine call_list_range (n := n) (I1.ok.hd hc) hr b3 b4 (Nat.le_trans le (by decide)) fun h' tk acc c' hk e' hi => ?_
  refine ⟨.ref s1.heap.objs.size, upd H1 s1.heap.objs.size (.lst (rgC i k n)), I1.laid hk (Nat.le_refl _) (show ObjOk X.prog X.w _ _ _ (.lst (rgC i k n)) from ⟨?_, acc.toList, c', vals_rgC hi, ?_⟩), rfl, q _ (I1.hok.fresh (Nat.le_refl _))⟩
  · rw [rgC_length, sizeLine_eq]; omega
  · rw [Array.toArray_toList]; exact e'
end
end Rt
namespace Rt
open PySem PySem.Spec L2
open PyProof.Rows hiding St
/-! ### a comprehension with two for, over any walks -/
section
variable {J J1 : It} {n n1 : Nat} {G G1 : Hp → Prop} {Y Y1 : Nat → Hp → V → Hp → Prop}
theorem lc2_it (wk : Walk J n G Y) {g g1 : TG} {tt tt1 : TT} {wi1 : TI} {te : TE} {vs vs1 : List Nat} {σ : L2.St} {H1 : Hp} {D : Addr} {Qd : Hp → Prop} (Pv : Nat → Hp → Prop) (start : Pv 0 (upd H1 D (.lst []))) (good : ∀ i H, i ≤ n → Pv i H → G H)
    (turn : ∀ i x H H', i < n → Pv i H → Y i H x H' → g x (wipe σ vs) H' fun σ2 H2 => wipe σ2 vs = wipe σ vs ∧ tt σ2 H2 fun b H3 =>
      if b = true then wi1 σ2 H3 fun J1 H4 => ∃ W1 : Nat → Nat → Hp → Prop, (∃ m, W1 0 m H4) ∧ ∀ j k H, W1 j k H →
        (J1.stop j H ∧ Pv (i + 1) H) ∨ (J1.go j H ∧ ∃ Nx1 : Hp → Prop, (∀ H', Nx1 H' → ∃ k', k' < k ∧ W1 (j + 1) k' H') ∧ ∀ x H', J1.yld j H x H' → g1 x (wipe σ2 vs1) H' fun σ3 H5 => wipe σ3 vs1 = wipe σ2 vs1 ∧ tt1 σ3 H5 fun b H6 =>
          if b = true then te σ3 H6 fun y H7 => ∃ acc, H7 D = some (.lst acc) ∧ acc.length < sizeLine ∧ Nx1 (upd H7 D (.lst (acc ++ [y]))) else Nx1 H6)
      else Pv (i + 1) H3) (fin : ∀ H, Pv n H → Qd H) :
    ∃ W : Nat → Nat → Hp → Prop, (∃ m, W 0 m (upd H1 D (.lst []))) ∧ ∀ i m H, W i m H →
      (J.stop i H ∧ Qd H) ∨ (J.go i H ∧ ∃ Nx : Hp → Prop, (∀ H', Nx H' → ∃ m', m' < m ∧ W (i + 1) m' H') ∧ ∀ x H', J.yld i H x H' → g x (wipe σ vs) H' fun σ2 H2 => wipe σ2 vs = wipe σ vs ∧ tt σ2 H2 fun b H3 =>
        if b = true then wi1 σ2 H3 fun J1 H4 => ∃ W1 : Nat → Nat → Hp → Prop, (∃ m, W1 0 m H4) ∧ ∀ j k H, W1 j k H →
          (J1.stop j H ∧ Nx H) ∨ (J1.go j H ∧ ∃ Nx1 : Hp → Prop, (∀ H', Nx1 H' → ∃ k', k' < k ∧ W1 (j + 1) k' H') ∧ ∀ x H', J1.yld j H x H' → g1 x (wipe σ2 vs1) H' fun σ3 H5 => wipe σ3 vs1 = wipe σ2 vs1 ∧ tt1 σ3 H5 fun b H6 =>
            if b = true then te σ3 H6 fun y H7 => ∃ acc, H7 D = some (.lst acc) ∧ acc.length < sizeLine ∧ Nx1 (upd H7 D (.lst (acc ++ [y]))) else Nx1 H6)
        else Nx H3) := by
  refine ⟨fun i m H => m + i = n ∧ Pv i H, ⟨n, rfl, start⟩, fun i m H ⟨e, p⟩ => ?_⟩
  have q := good i H (by omega) p
  rcases Nat.lt_or_ge i n with lt | ge
  · exact .inr ⟨wk.goes i H lt q, Pv (i + 1), fun H' p' => ⟨m - 1, by omega, by omega, p'⟩, fun x H' y => turn i x H H' lt p (wk.yields i H x H' lt q y)⟩
  · obtain rfl : i = n := by omega
    exact .inl ⟨wk.stops H q, fin H p⟩
theorem in_it (wk : Walk J1 n1 G1 Y1) {g1 : TG} {tt1 : TT} {te : TE} {vs1 : List Nat} {σ2 : L2.St} {H4 : Hp} {D : Addr} {Nx : Hp → Prop} (Pv : Nat → Hp → Prop) (start : Pv 0 H4) (good : ∀ i H, i ≤ n1 → Pv i H → G1 H)
    (turn : ∀ i x H H', i < n1 → Pv i H → Y1 i H x H' → g1 x (wipe σ2 vs1) H' fun σ3 H5 => wipe σ3 vs1 = wipe σ2 vs1 ∧ tt1 σ3 H5 fun b H6 =>
      if b = true then te σ3 H6 fun y H7 => ∃ acc, H7 D = some (.lst acc) ∧ acc.length < sizeLine ∧ Pv (i + 1) (upd H7 D (.lst (acc ++ [y]))) else Pv (i + 1) H6) (fin : ∀ H, Pv n1 H → Nx H) :
    ∃ W1 : Nat → Nat → Hp → Prop, (∃ m, W1 0 m H4) ∧ ∀ j k H, W1 j k H →
      (J1.stop j H ∧ Nx H) ∨ (J1.go j H ∧ ∃ Nx1 : Hp → Prop, (∀ H', Nx1 H' → ∃ k', k' < k ∧ W1 (j + 1) k' H') ∧ ∀ x H', J1.yld j H x H' → g1 x (wipe σ2 vs1) H' fun σ3 H5 => wipe σ3 vs1 = wipe σ2 vs1 ∧ tt1 σ3 H5 fun b H6 =>
        if b = true then te σ3 H6 fun y H7 => ∃ acc, H7 D = some (.lst acc) ∧ acc.length < sizeLine ∧ Nx1 (upd H7 D (.lst (acc ++ [y]))) else Nx1 H6) := by
  refine ⟨fun i m H => m + i = n1 ∧ Pv i H, ⟨n1, rfl, start⟩, fun i m H ⟨e, p⟩ => ?_⟩
  have q := good i H (by omega) p
  rcases Nat.lt_or_ge i n1 with lt | ge
  · exact .inr ⟨wk.goes i H lt q, Pv (i + 1), fun H' p' => ⟨m - 1, by omega, by omega, p'⟩, fun x H' y => turn i x H H' lt p (wk.yields i H x H' lt q y)⟩
  · obtain rfl : i = n1 := by omega
    exact .inl ⟨wk.stops H q, fin H p⟩
end
theorem pi_listK {X : Cx} {K : PySem.W.Frag} {tg l : Expr} {tl : TE} (hK : X.K = K) (hl : PE X l tl) : PI X tg l (iList K tl) := by
  subst hK
  exact pi_list hl
/-! ### dicts that are written with different keys -/
theorem putK_new : ∀ {kvs : List (Key × V)} {k : Key} {v : V}, (∀ x, x ∈ kvs → x.1 ≠ k) → putK kvs k v = kvs ++ [(k, v)] := fun {kvs k v} h => by
  unfold putK
  rw [if_neg]
  intro z
  obtain ⟨x, hx, e⟩ := List.any_eq_true.mp z
  exact h x hx (of_decide_eq_true e)
theorem merge_app : ∀ (more kvs : List (Key × V)), (∀ x, x ∈ more → ∀ y, y ∈ kvs → y.1 ≠ x.1) → (more.map (·.1)).Nodup → mergeK kvs more = kvs ++ more
  | [], kvs, _, _ => by unfold mergeK; simp
  | x :: more, kvs, h, nd => by
    have nd' := List.nodup_cons.mp nd
    have e : mergeK kvs (x :: more) = mergeK (putK kvs x.1 x.2) more := rfl
    rw [e, putK_new (h x List.mem_cons_self), merge_app more _ (fun z hz y hy => ?_) nd'.2, List.append_assoc]
    · rfl
    · rcases List.mem_append.mp hy with q | q
      · exact h z (List.mem_cons_of_mem _ hz) y q
      · cases List.mem_singleton.mp q
        intro e2
        exact nd'.1 (List.mem_map.mpr ⟨z, hz, e2.symm⟩)
theorem merge_keys {kvs : List (Key × V)} (nd : (kvs.map (·.1)).Nodup) : mergeK [] kvs = kvs := by
  rw [merge_app kvs [] (fun _ _ _ h => nomatch h) nd]
  rfl
end Rt
namespace Rt
open PySem PySem.Spec L2
open PyProof.Rows hiding St
/-! ### i if c else j, of two ints -/
def tIfI (t : TT) (i j : Int) : TE := fun σ H Q => t σ H fun c H1 => Q (.int (if c = true then i else j)) H1
theorem pe_ifInt {X : Cx} {c : Expr} {tA : TT} {i j : Int} {k1 k2 : Nat} {q1 q2 pos : Pos} (hc : PT X c tA) : PE X (.IfExp c (.Constant (.int i) k1 q1) (.Constant (.int j) k2 q2) pos) (tIfI tA i j) := by
  have h := pe_ifExp (pos := pos) hc (pe_int (X := X) (i := i) (j := k1) (pos := q1)) (pe_int (X := X) (i := j) (j := k2) (pos := q2))
  have e : tIfI tA i j = tIf tA (tC (V.int i)) (tC (V.int j)) := by
    funext σ H Q
    unfold tIfI tIf tC
    congr 1
    funext c H1
    cases c <;> rfl
  rw [e]
  exact h
end Rt
namespace Rt
open PySem PySem.Spec L2
open PyProof.Rows hiding St
/-! ### slots, written out anew -/
theorem name_step {i : Nat} {v : V} {σ σ' : L2.St} {H : Hp} {Q : L2.St → Hp → Prop} (h : σ.set i (some v) = σ') (k : Q σ' H) : gName i v σ H Q := by
  subst h
  exact k
end Rt
namespace Rt
open PySem PySem.Spec L2
open PyProof.Rows hiding St
/-! ### methods of lists and len in comprehensions: the world of the element is not named in what they ask -/
theorem pe_bmK {X : Cx} {K : PySem.W.Frag} {o e : Expr} {es : List Expr} {to : TE} {t : TA} {name : Str} {apos cpos : Pos} {T id : String} {r : V → List V → Hp → VK → Prop} (hK : X.K = K) (pa : PlainAttrs T) (slot : Slot T name id) (hty : typeOf (.builtin id) = pure (.type "method_descriptor")) (hm : MtR X id r) (ho : PE X o to) (ha : PA X (e :: es) t)
    (hbase : attributeBase o name X.env (eval o X.env) = eval o X.env := by rfl)
    (hfew : ((backTo cpos (starEach (e :: es) X.env)).all (fun x => !x.1) && (backToKw cpos (keywordEach [] X.env)).all (fun x => x.1.isSome)
      && decide ((e :: es).length + ([] : List Keyword).length + (if ([] : List Keyword).isEmpty then 0 else 1) < 30)) = true := by rfl)
    (hline : (apos.endLine == cpos.line) = true := by rfl) (hs : starEach (e :: es) X.env = (false, eval e X.env) :: starEach es X.env := by rfl) (hplain : (backTo cpos (starEach es X.env)).any (·.1) = false := by rfl) :
    PE X (.Call (.Attribute o name apos) (e :: es) [] cpos) (tBM K T r to t) := by
  subst hK
  exact pe_bm pa slot hty hm ho ha hbase hfew hline hs hplain
def rLenS (K : PySem.W.Frag) : List V → Hp → VK → Prop := fun xs H Q => ∃ p ys, xs = [V.ref p] ∧ (SqL K H p ys ∨ SqT K H p ys) ∧ Q (.int ((ys.length : Nat) : Int)) H
theorem call_lenK {X : Cx} {K : PySem.W.Frag} (hK : X.K = K) : CallR X (.builtin "len") (rLenS K) := by
  subst hK
  exact call_len_seq
end Rt
namespace Rt
open PySem PySem.Spec L2
open PyProof.Rows hiding St
/-! ### for over what is a list or a tuple -/
def seqR (K : PySem.W.Frag) (R : It → Hp → Prop) (a : Addr) (H : Hp) : Prop := ((∃ xs, SqL K H a xs) ∧ R (Itl K a) H) ∨ ((∃ xs, SqT K H a xs) ∧ R (Itt K a) H)
def iSeq (K : PySem.W.Frag) (tl : TE) : TI := fun σ H R => tl σ H fun x H1 => ∃ a, x = .ref a ∧ seqR K R a H1
theorem pi_seq {X : Cx} {tg l : Expr} {tl : TE} (hl : PE X l tl) : PI X tg l (iSeq X.K tl) := by
  refine ⟨fun pins s σ H R I h => ?_⟩
  refine thn (hl.run pins s σ H _ I h) fun v s1 ⟨x, H1, I1, r1, q1⟩ => ?_
  obtain ⟨a, e, q1⟩ := q1
  subst e
  cases r1
  rcases q1 with ⟨⟨xs, hq⟩, q⟩ | ⟨⟨xs, hq⟩, q⟩
  · obtain ⟨its, rv, p, hz⟩ := I1.list hq
    refine wpAny_pyIter_list p.isList ?_
    refine ⟨s1.heap.objs.size, [s1.heap.objs.size], _, _, H1, rfl, I1.kept (t' := s1.toks) fun b o e => Heap.get?_push_of_some _ e, turn_list a _, ⟨_, Heap.get?_push_size _ rfl, rfl, rfl⟩, fun b hb => ?_, q⟩
    have e : b = s1.heap.objs.size := by simpa using hb
    subst e
    exact I1.fpOk (Nat.le_refl _) (I1.hok.fresh (Nat.le_refl _))
  · obtain ⟨its, rv, p, hz⟩ := I1.tuple hq
    refine wpAny_pyIter_tuple (show s1.heap.IsTuple a its.toArray from p) ?_
    refine ⟨s1.heap.objs.size, [s1.heap.objs.size], _, _, H1, rfl, I1.kept (t' := s1.toks) fun b o e => Heap.get?_push_of_some _ e, turn_tuple a _, ⟨_, Heap.get?_push_size _ rfl, rfl, rfl⟩, fun b hb => ?_, q⟩
    have e : b = s1.heap.objs.size := by simpa using hb
    subst e
    exact I1.fpOk (Nat.le_refl _) (I1.hok.fresh (Nat.le_refl _))
end Rt
namespace Rt
open PySem PySem.Spec L2 LamX
open PyProof.Rows hiding St
/-! ### told: try: return (word, a()) / except X: return (word,) -/
def TToldT (K : PySem.W.Frag) (CS : Addr) (yes no : Str) : (XK → Hp → VK → Prop) → Hp → VK → Prop := fun tl H Q =>
  tl (fun cls _ H' => ∃ b, PySem.W.exmOne K cls (.ref CS) = some b ∧ (b = true → [V.str no].length ≤ sizeLine ∧ ∀ p, H' p = none → Q (.ref p) (upd H' p (.tup [.str no]))) ∧ (b = false → False)) H fun v H' => [V.str yes, v].length ≤ sizeLine ∧ ∀ p, H' p = none → Q (.ref p) (upd H' p (.tup [.str yes, v]))
section
variable {X : Cx}
theorem told_givesT {Ng : List Str} {x a e q yes no : Str} {sg : Scope} {g CS : Addr} {cdg : Value} {j1 j2 k1 k2 : Nat} {p1 p2 p3 p4 p6 p7 p8 t1 t2 t3 t4 : Pos} (hge : sg.names.lookup e = some .globalImplicit) (hme : X.mg e = some (.ref CS)) (hde : (e == ("__debug__" : Str)) = false) (h0 : ∀ f : Addr, (L2.start Ng [V.ref f])[0]? = some (some (V.ref f))) :
    GivesTo X Ng x sg g cdg [.Try [.Return (some (.Tuple [.Constant (.str yes) j1 t1, .Call (.Name a p1) [] [] p2] k1 t2)) p3] [.ExceptHandler (some (.Name e p4)) none [.Return (some (.Tuple [.Constant (.str no) j2 t3] k2 t4)) p6] p7] [] [] p8] a q (TToldT X.K CS yes no) := by
  intro f c' s H Q tl act hc h
  have hgl : Gl (cxOf C8.CX0 X.prog X.w X.K X.mg X.base Ng x sg g cdg X.A X.stack s H C8.E0).nox e := hge
  refine ⟨_, pss_one (ps_try_only (X := (cxOf C8.CX0 X.prog X.w X.K X.mg X.base Ng x sg g cdg X.A X.stack s H C8.E0).nox) (c := .ref CS)
      (tb := fun W D σ H => ∃ Ech : XK, (∀ cls d σ' H', Ech cls d H' → W cls d σ' H') ∧ σ[0]? = some (some (.ref f)) ∧ H c' = some (CodeO c' q) ∧ tl Ech H fun v H' => [V.str yes, v].length ≤ sizeLine ∧ ∀ p, H' p = none → D.rt (.ref p) (upd H' p (.tup [.str yes, v])))
      rfl rfl ⟨hgl, hde, .inl hme⟩ LamX.takes0 (fun W pn xe tk _ => ?_) (fun a oe cls d pn _ _ => pss_one (ps_ret (pe_tup (pa_cons pe_str pa_nil))))), ?_⟩
  · refine ⟨fun pins s' σ H' D I h' => ?_⟩
    obtain ⟨Ech, hW, h1, h2, h3⟩ := h'
    have hp := act W pn xe Ech p1 p2 tk hW
    have hq := pss_one (ps_ret (pos := p3) (pe_tup (x1 := k1) (pos := t2) (pa_cons (pe_str (x := yes) (j := j1) (pos := t1)) (pa_cons hp pa_nil))))
    exact hq.run pins s' σ H' D I ⟨h1, h2, h3⟩
  · exact ⟨fun cls _ H' => ∃ b, PySem.W.exmOne X.K cls (.ref CS) = some b ∧ (b = true → [V.str no].length ≤ sizeLine ∧ ∀ p, H' p = none → Q (.ref p) (upd H' p (.tup [.str no]))) ∧ (b = false → False), fun cls d σ' H' ⟨b, e1, e2, e3⟩ => ⟨b, e1, fun hb a _ => e2 hb, fun hb => e3 hb⟩, h0 f, hc, h⟩
end
end Rt
namespace Rt
open PySem PySem.Spec L2
open PyProof.Rows hiding St
/-! ### repr of data -/
mutual
theorem dp_plain {K : PySem.W.Frag} {H : Hp} : ∀ (d : PyData) (v : V), Dp K H v d → d.hasDict = false
  | .none, _, _ => by simp only [PyData.hasDict]
  | .bool _, _, _ => by simp only [PyData.hasDict]
  | .int _, _, _ => by simp only [PyData.hasDict]
  | .str _, _, _ => by simp only [PyData.hasDict]
  | .list ds, _, h => by
    cases h with
    | lst _ ha =>
      simp only [PyData.hasDict]
      exact dp_plainAll ds _ ha
  | .tuple ds, _, h => by
    cases h with
    | tup _ ha =>
      simp only [PyData.hasDict]
      exact dp_plainAll ds _ ha
  | .dict _, _, h => by cases h
theorem dp_plainAll {K : PySem.W.Frag} {H : Hp} : ∀ (ds : List PyData) (vs : List V), DpAll K H vs ds → PyData.hasDictAll ds = false
  | [], _, _ => by simp only [PyData.hasDictAll]
  | d :: ds, _, h => by
    cases h with
    | cons h1 h2 => simp only [PyData.hasDictAll, dp_plain d _ h1, dp_plainAll ds _ h2, Bool.or_self]
end
def rRepr (K : PySem.W.Frag) : List V → Hp → VK → Prop := fun xs H Q => ∃ v d, xs = [v] ∧ Dp K H v d ∧ d.showable = true ∧ d.depth ≤ 60 ∧ d.shown.length ≤ sizeLine ∧ Q (.str d.shown) H
section
variable {X : Cx}
theorem call_repr (hg : X.A.guards = some []) (hu : X.A.units + 64 < cLine) : CallR X (.builtin "repr") (rRepr X.K) := by
  intro pins s σ H xs us Q I r h
  obtain ⟨v, d, rfl, hd, hs, hdep, hz, q⟩ := h
  obtain ⟨u, rfl, ru⟩ := vals1 r
  have np := dp_plain d v hd
  obtain ⟨as, rd⟩ := Dp.reads I d v u hd ru
  cases rd with
  | none => exact PySem.P.repr_of_none ⟨.str _, H, I.tok _, ⟨_, rfl⟩, by simpa only [PyData.shown] using q⟩
  | bool b => exact PySem.P.repr_of_bool ⟨.str _, H, I.tok _, ⟨_, rfl⟩, by simpa only [PyData.shown] using q⟩
  | int i t => exact PySem.P.repr_of_int (by simpa [PyData.showable] using hs) ⟨.str _, H, I.tok _, ⟨_, rfl⟩, by simpa only [PyData.shown] using q⟩
  | str x t => exact PySem.P.repr_of_str ⟨.str _, H, I.tok _, ⟨_, rfl⟩, by simpa only [PyData.shown] using q⟩ (by simpa only [PyData.shown] using hz)
  | list h1 h2 h3 h4 =>
    exact repr_of_reads' (.list h1 h2 h3 h4) hs (fun z => by rw [np] at z; cases z) hg (by omega) (fun _ _ e => e) (fun h' u tk kp => ⟨.str _, H, I.kept kp, ⟨u, rfl⟩, q⟩) hz
  | tuple h1 h2 h3 h4 =>
    exact repr_of_reads' (.tuple h1 h2 h3 h4) hs (fun z => by rw [np] at z; cases z) hg (by omega) (fun _ _ e => e) (fun h' u tk kp => ⟨.str _, H, I.kept kp, ⟨u, rfl⟩, q⟩) hz
  | dict => simp [PyData.hasDict] at np
end
end Rt
/-! own rules: exceptions as values, with attributes -/
namespace Rt
open PySem PySem.Spec L2
open PyProof.Rows hiding St
/-- an exception of the class at C stands at a; its attributes are fs -/
def Ex (H : Hp) (a C : Addr) (fs : List (Str × V)) : Prop := (fs = [] ∧ H a = some (exo a C none)) ∨ ∃ d, H a = some (exo a C (some d)) ∧ H d = some (exd d fs)
section
variable {X : Cx} {pins : List (Addr × Obj)} {σ : St} {H : Hp} {s : Shared} {a C : Addr} {fs : List (Str × V)}
/-- its object, and its own dict, if it has one -/
theorem ex_inst (I : Inv X pins σ H s) (e : Ex H a C fs) : ∃ (ox : Obj) (od : Option Obj), PySem.W.InstAt s.heap a ox C od ∧
    ∀ n v, fs.lookup n = some v → ∃ u o, od = some o ∧ PySem.W.lookIn n o = some (some u) ∧ L2.RelV v u := by
  rcases e with ⟨rfl, e⟩ | ⟨d, e, ed⟩
  · obtain ⟨t1, he⟩ := exo_at I.hok e
    exact ⟨_, none, ⟨he, rfl, rfl, trivial⟩, fun n v z => nomatch z⟩
  · obtain ⟨t1, he⟩ := exo_at I.hok e
    obtain ⟨mA, hns, rel⟩ := exd_at I.hok ed
    obtain ⟨od, ho, hl⟩ := lookIn_ns hns
    refine ⟨_, some od, ⟨he, rfl, rfl, ho⟩, fun n v z => ?_⟩
    obtain ⟨u, hu, ru⟩ := RelO.some_of (v := v) (o := mA n) (by rw [← z]; exact rel n)
    exact ⟨u, od, rfl, by rw [hl, hu], ru⟩
theorem ex_kit (C' : ExcC X.K C) : PySem.W.KitX X.K (.ref a) (.ref C) (fun h => ∃ ox od, PySem.W.InstAt h a ox C od) := by
  have hcl : (PySem.W.clsIn X.K C).isSome = true := by
    obtain ⟨cd, hc, _⟩ := PySem.W.any_some C'.hd
    rw [hc]
    rfl
  have Z := fun ox od => PySem.W.kitx_exc (x := a) (ox := ox) (od := od) hcl C'.hg C'.hk C'.hs C'.ha C'.hn C'.ht C'.hm
  exact ⟨fun _ _ x ⟨ox, od, p⟩ => (Z ox od).ty _ _ x p, fun _ _ x ⟨ox, od, p⟩ => (Z ox od).it _ _ x p, fun h tp dd its n sl x t => (Z default none).ne h tp dd its n sl x t, fun x ⟨ox, od, p⟩ k => (Z ox od).ca x p k⟩
end
/-- isinstance(e, c), isinstance(e, (c1, c2)) -/
def rIsX (K : PySem.W.Frag) : List V → Hp → VK → Prop := fun xs H Q => ∃ (a C : Addr) (fs : List (Str × V)), Ex H a C fs ∧ ExcC K C ∧
  ((∃ (c : V) (u : Value) (b : Bool), xs = [.ref a, c] ∧ ClsV c u ∧ PySem.W.kitOne K (.ref C) u = some b ∧ Q (.bl b) H) ∨
   (∃ (tp : Addr) (cs : List V) (us : List Value) (b : Bool), xs = [.ref a, .ref tp] ∧ H tp = some (.tup cs) ∧ Paired ClsV cs us ∧ PySem.W.kitAny K (.ref C) us = some b ∧ Q (.bl b) H))
section
variable {X : Cx}
theorem call_isX : CallR X (.builtin "isinstance") (rIsX X.K) := by
  intro pins s σ H xs us Q I r h
  obtain ⟨a, C, fs, e, CC, h⟩ := h
  obtain ⟨ox, od, J, _⟩ := ex_inst I e
  have no : (Value.ref a) ≠ .builtin "__main__.__loader__#opaque" := fun z => nomatch z
  rcases h with ⟨c, u, b, rfl, k, ek, q⟩ | ⟨tp, cs, ws, b, rfl, hT, k, ek, q⟩
  · obtain ⟨u1, u2, rfl, r1, r2⟩ := vals2 r
    cases r1
    cases k.eq r2
    exact PySem.W.kia_one (ex_kit CC) I.kIn ⟨ox, od, J⟩ ek no fun tk => ⟨.bl b, H, I.tok tk, rfl, q⟩
  · obtain ⟨u1, u2, rfl, r1, r2⟩ := vals2 r
    cases r1
    cases r2
    obtain ⟨_, its, rv, o, h1, h2, n, h3⟩ := (show ObjOk X.prog X.w H s.heap tp (.tup cs) from I.hok tp _ hT)
    cases ClsV.all k rv
    obtain ⟨oc, ode, dt, sl⟩ := o
    cases h2
    cases h3
    exact PySem.W.kia_tup (ex_kit CC) I.kIn ⟨ox, od, J⟩ h1 ek no fun tk => ⟨.bl b, H, I.tok tk, rfl, q⟩
/-- e.n of such an exception -/
def tXg (K : PySem.W.Frag) (n : Str) (te : TE) : TE := fun σ H Q => te σ H fun x H1 => ∃ (a C : Addr) (fs : List (Str × V)) (v : V), x = .ref a ∧ Ex H1 a C fs ∧ ExcC K C ∧ PySem.W.findIn K (.ref C) n = some none ∧ fs.lookup n = some v ∧ Q v H1
theorem pe_xg {e : Expr} {te : TE} {pos : Pos} {n : Str} (he : PE X e te) (hb : attributeBase e n X.env (eval e X.env) = eval e X.env := by rfl) : PE X (.Attribute e n pos) (tXg X.K n te) := by
  constructor
  intro pins s σ H Q I h
  refine attr_of hb (thn (he.run pins s σ H _ I h) ?_)
  rintro u s1 ⟨x, H1, J, rx, a, C, fs, v, rfl, ex, CC, hno, l, q⟩
  cases rx
  obtain ⟨ox, od, inst, look⟩ := ex_inst J ex
  obtain ⟨w, o, rfl, lu, rw'⟩ := look n v l
  exact HandSPX.exc_get J.kIn inst CC.hg CC.hk CC.hs (PySem.W.findObj_own CC.hd hno rfl lu) (handed_of rw') ⟨v, H1, J.tok _, rw', q⟩
end
end Rt
namespace Rt
open PySem PySem.Spec L2
open PyProof.Rows hiding St
section
open Builtin Builtin.ObjectAttr PySem.Calls
variable {prog : Program} {w : World} {A : Around} {R : Result → Shared → Prop} {hp : Heap} {g : Array GenState} {d : Drawn} {t : Nat} {os : OsState}
/-- the first attribute of an exception of one's own, whatever its built-in base is -/
theorem exc_first {K : PySem.W.Frag} {B : String} {bmB : List Value} {name : Str} {tk : Tok} {v : Value} {x C : Addr} {fv : Array Value}
    (SF : StoreFacts B bmB "object.__setattr__" "object") (kin : K.In hp) (hx : hp.get? x = some { cls := .ref C, data := .fields fv }) (over : PySem.W.excOver K C bmB = true) (no : PySem.W.findIn K (.ref C) name = some none) (hd : PySem.W.hasDictIn K C = true)
    (hq : ∀ h' tk' dx, (∀ b o, b ≠ x → hp.get? b = some o → h'.get? b = some o) → hp.objs.size ≤ dx → dx ≠ x → h'.get? x = some { cls := .ref C, dict := some dx, data := .fields fv } →
      h'.Ns1 dx (fun y => if y = name then some v else none) → R (.ok (.ret .none)) ⟨h', g, d, tk', os⟩) :
    codeAny (model prog w) A (.call (.builtin "object.__setattr__") ⟨[.ref x, .str name tk, v], []⟩) R ⟨hp, g, d, t, os⟩ := by
  have inst : PySem.W.InstAt hp x { cls := .ref C, data := .fields fv } C none := ⟨hx, rfl, rfl, trivial⟩
  have taker : PySem.W.takerIn K C name = some none := by
    unfold PySem.W.takerIn
    rw [no]
    rfl
  have far : x ≠ hp.objs.size := Nat.ne_of_lt (Heap.lt_size hx)
  obtain ⟨cd, hcd, hh⟩ := PySem.W.any_some hd
  refine PySem.W.osa_openX (s := ⟨hp, g, d, t, os⟩) SF kin inst over taker fun b => ?_
  have hcls : PySem.W.Looks (model prog w) hp (classData C) cd := PySem.W.looks_clsIn kin hcd
  obtain ⟨nm, bs, mro, ns, qn, hdc, sn, sb, ab, col, del⟩ := cd
  dsimp only at hh
  subst hh
  show wpAny _ _ (storeInOwnDict (.ref x) (.ref C) (.str name tk) name v b) _ _ _
  unfold storeInOwnDict ownDictForStores
  repeat (first | with_reducible refine HandSPX.store_in_new ?_ ?_ | with_reducible refine wpAny_loadPart_at hx ?_ | with_reducible refine hcls.at ?_ | wp_step)
  · exact ⟨_, #[], _, (Heap.get?_update_ne _ _ _ _ far.symm).trans (Heap.get?_push_at rfl rfl), rfl, fun e he => absurd he (by simp), fun _ => rfl⟩
  · intro h' tk' ns1 same
    have there : (hp.push { cls := .type "dict", data := .dict #[] }).get? x = some { cls := .ref C, data := .fields fv } := Heap.get?_push_of_some _ hx
    refine hq h' tk' hp.objs.size ?_ (Nat.le_refl _) far.symm ?_ ns1
    · intro b o nb ho
      exact (same.2 b (Nat.ne_of_lt (Heap.lt_size ho))).trans ((Heap.get?_update_ne _ _ _ _ nb).trans (Heap.get?_push_of_some _ ho))
    · exact (same.2 x far).trans (Heap.get?_update_self _ there rfl)
end
end Rt
namespace Rt
open PySem PySem.Spec L2
open PyProof.Rows hiding St
/-- a class of one's own over a built-in exception: its instances may be made, read, stored into -/
structure ExM (K : PySem.W.Frag) (C : Addr) (bmB : List Value) : Prop where
  over : PySem.W.excOver K C bmB = true
  sa : PySem.W.findIn K (.ref C) "__setattr__" = some (some (.builtin "object.__setattr__"))
  cc : ExcC K C
  kp : PySem.W.keepIn K (.ref C) = true
section
variable {X : Cx} {pins : List (Addr × Obj)} {σ : St} {H : Hp} {s : Shared} {a C : Addr} {f : Str} {y : V} {u : Value} {B : String} {bmB : List Value} {Q : Unit → Shared → Prop} {E : Value → Shared → Prop} {A : Around}
theorem ext_ne {φ : Heap → Prop} {o : HO} {b c : Addr} (h1 : H b = some (.ext φ)) (h2 : H c = some o) (d : ∀ ψ, o ≠ .ext ψ) : c ≠ b := fun z => by
  rw [z, h1] at h2
  exact d φ (Option.some.inj h2).symm
theorem set_first (SF : StoreFacts B bmB "object.__setattr__" "object") (M : ExM X.K C bmB) (no : PySem.W.findIn X.K (.ref C) f = some none) (I : Inv X pins σ H s) (e : H a = some (exo a C none)) (ry : L2.RelV y u)
    (h : ∀ dx s', H dx = none → dx ≠ a → Inv X pins σ (upd (upd H dx (exd dx [(f, y)])) a (exo a C (some dx))) s' → Q () s') : wpAny (model X.prog X.w) A (setAttr (.ref a) f u) Q E s := by
  obtain ⟨t1, there⟩ := exo_at I.hok e
  obtain ⟨hp, g, d, t, os⟩ := s
  refine PySem.W.set_plain (ox := { cls := .ref C, dict := none, data := .fields #[.ref t1, .none, .none, .none, .bool false, .none] }) (od := none) I.kIn ⟨there, rfl, rfl, trivial⟩ M.sa ?_
  refine exc_first SF I.kIn there M.over no M.cc.hd ?_
  intro h' tk' dx kp big apart hx ns1
  have fresh : H dx = none := I.hok.fresh big
  have old : ∀ {b : Addr} {o : Obj}, hp.get? b = some o → b ≠ dx := fun {b o} z => Nat.ne_of_lt (Nat.lt_of_lt_of_le (Heap.lt_size z) big)
  have free : ∀ {b : Addr}, H b = none → b ≠ a := fun {b} z y => by
    rw [y, e] at z
    cases z
  have keepsH : ∀ {b : Addr} {o : HO}, H b = some o → b ≠ a → (upd (upd H dx (exd dx [(f, y)])) a (exo a C (some dx))) b = some o := fun {b o} z nb => by
    rw [upd_ne nb, upd_ne (ne_of_none z fresh)]
    exact z
  have U : Un X.fs [] H (upd (upd H dx (exd dx [(f, y)])) a (exo a C (some dx))) hp h' := by
    constructor
    · exact fun b o z n _ _ => kp b o (free n) z
    · exact fun b o z n _ _ => ⟨o.slots, kp b o (free n) z⟩
    · intro b o z n _
      rw [upd_ne (free n), upd_ne (old z)]
      exact n
    · intro b o z _
      by_cases hb : b = a
      · subst hb
        exact ⟨_, hx⟩
      · exact ⟨o, kp b o hb z⟩
    · exact fun b xs z => keepsH z (ext_ne e z (fun _ => nofun))
    · exact fun b o v z => keepsH z (ext_ne e z (fun _ => nofun))
    · exact fun b ps z => ⟨#[], by rw [keepsH z (ext_ne e z (fun _ => nofun))]; simp⟩
  refine h dx _ fresh apart (I.un (t' := tk') U ?_)
  intro b o z
  by_cases hb : b = a
  · subst hb
    rw [upd_same] at z
    cases z
    exact exo_ok hx
  · rw [upd_ne hb] at z
    by_cases hd : b = dx
    · subst hd
      rw [upd_same] at z
      cases z
      exact exd_ok ns1 (relO_put (fs := []) ry fun _ => True.intro)
    · rw [upd_ne hd] at z
      refine (I.hok b o z).stay (fun c v hc q => kp c v ?_ q) (fun c q => keepsH q (ext_ne e q (fun _ => nofun))) fun c xs q => keepsH q (ext_ne e q (fun _ => nofun))
      rcases hc with rfl | hc
      · exact hb
      · exact ext_ne e hc (fun _ => nofun)
end
/-- self.f = e, within the own __init__ -/
def tXs (K : PySem.W.Frag) (bmB : List Value) (f : Str) (to te : TE) : TS := fun D σ H => te σ H fun y H1 => to σ H1 fun x H2 => ∃ a C : Addr, x = .ref a ∧ ExM K C bmB ∧ PySem.W.findIn K (.ref C) f = some none ∧ H2 a = some (exo a C none) ∧
  ∀ dx, H2 dx = none → dx ≠ a → D.nx σ (upd (upd H2 dx (exd dx [(f, y)])) a (exo a C (some dx)))
section
variable {X : Cx} {o e : Expr} {to te : TE} {f : Str} {p p' pos : Pos} {B : String} {bmB : List Value} {es : List Expr} {ta : TA}
theorem ps_xs (SF : StoreFacts B bmB "object.__setattr__" "object") (ho : PE X o to) (he : PE X e te) (hs : swapsWith e (some (.Attribute o f p')) pos.line X.env = pure false := by rfl) : PS X (.Assign [.Attribute o f p'] e pos) (tXs X.K bmB f to te) := by
  constructor
  intro pins s σ H D I h
  refine plainObj_wpAny_Assign_Attribute (thn (he.run pins s σ H _ I h) ?_) hs
  rintro v s1 ⟨y, H1, J1, r1, q1⟩
  refine thn (ho.run pins s1 σ H1 _ J1 q1) ?_
  rintro u s2 ⟨x, H2, J2, r2, a, C, rfl, M, no, ea, q⟩
  cases r2
  exact set_first SF M no J2 ea r1 fun dx s' n ne J => ⟨σ, _, J, q dx n ne⟩
/-- C(e, ..), C's own __init__ keeping sp: the new exception as a value -/
def tXm (C : Addr) (sp : Sp) (ta : TA) : TE := fun σ H Q => ta σ H fun vs H1 => vs.length ≤ 1000 ∧ ∀ a, H1 a = none → sp (.ref a :: vs) (upd H1 a (exo a C none)) (fun v H2 => v = .non ∧ Q (.ref a) H2) E0
theorem pe_xm {x : Str} {C fI : Addr} {k : Nat} {fd : FuncData} {ps : List Str} {sp : Sp} {newId initId : String} (F : ExcBaseFacts B newId initId bmB) (M : ExM X.K C bmB) (ini : PySem.W.excInitIn X.K C bmB newId = true)
    (iC : PySem.W.findIn X.K (.ref C) "__init__" = some (some (.ref fI))) (tI : PySem.W.typeIn X.K (.ref fI) = some (.type "function")) (G : FnOk X.prog X.w X.K X.mg X.base CX0 k fI fd ps sp) (hr : Room (k + 1) X.A) (hb : Binds X.K fd ps [])
    (hg : Gl X x) (hm : X.mg x = some (.ref C)) (ha : PA X (e :: es) ta) (hdb : (x == ("__debug__" : Str)) = false := by decide) (he : starEach (e :: es) X.env = (false, eval e X.env) :: starEach es X.env := by rfl)
    (hpl : (backTo pos (starEach es X.env)).any (·.1) = false := by rfl) : PE X (.Call (.Name x p) (e :: es) [] pos) (tXm C sp ta) := by
  constructor
  intro pins s σ H Q I h
  refine wpAny_Call_Name_kw (ld_glob I hg hm ?_ hdb)
  refine PySem.W.callWith_K (h₀ := X.base) I.ok.mod.kin M.kp (thn (ha.run pos pins s σ H _ I h) ?_) he hpl
  rintro us s1 ⟨vs, H1, J, rv, few, q⟩
  refine ⟨J.kIn, ?_⟩
  show wpAny _ _ (call (.ref C) us) _ _ _
  obtain ⟨hp, g, dr, tk, os⟩ := s1
  obtain ⟨nm, N, qn, bs, bm, hdct, sn, sub, ab, col, dd, k0, k1, k2, k3, k5, hC, tail⟩ := PySem.W.excInit_of J.kIn ini
  have le : hp.objs.size ≤ hp.objs.size + 1 := Nat.le_succ _
  have hn : H1 (hp.objs.size + 1) = none := J.hok.fresh le
  have want := q (hp.objs.size + 1) hn
  have kept : ∀ b o, hp.get? b = some o → ((hp.push (PySem.W.kdv_tup us)).push (PySem.HandSPX.excO C hp.objs.size)).get? b = some o := fun b o z => Heap.get?_push_of_some _ (Heap.get?_push_of_some _ z)
  have got : ((hp.push (PySem.W.kdv_tup us)).push (PySem.HandSPX.excO C hp.objs.size)).get? (hp.objs.size + 1) = some (PySem.HandSPX.excO C hp.objs.size) := by heap_get
  have J2 : Inv X pins σ (upd H1 (hp.objs.size + 1) (exo (hp.objs.size + 1) C none)) ⟨(hp.push (PySem.W.kdv_tup us)).push (PySem.HandSPX.excO C hp.objs.size), g, dr, tk, os⟩ :=
    J.laid (t' := tk) kept le (exo_ok got)
  have r2 : Vals (V.ref (hp.objs.size + 1) :: vs) (Value.ref (hp.objs.size + 1) :: us) := .cons rfl rv
  have hl : (Value.ref (hp.objs.size + 1) :: us).length = ps.length := by
    rw [← r2.length]
    exact G.len _ _ _ _ want
  have hus : us.length ≤ sizeLine := by
    rw [← Paired.length rv, sizeLine_eq]
    omega
  have bt : BindsTo ⟨(hp.push (PySem.W.kdv_tup us)).push (PySem.HandSPX.excO C hp.objs.size), g, dr, tk, os⟩ fd ⟨Value.ref (hp.objs.size + 1) :: us, []⟩ (ps.zip (Value.ref (hp.objs.size + 1) :: us)) := by
    have z := hb _ (Value.ref (hp.objs.size + 1) :: us) J2.kIn (by simpa using hl)
    simpa using z
  refine wpAny_call (PySem.HandSPX.call_own F tail hC (PySem.W.looks_findIn J.kIn iC) (fun self => PySem.W.bind_fn J.kIn self tI) hus
    (codeAny_mono (G.run _ X.stack _ _ ⟨Value.ref (hp.objs.size + 1) :: us, []⟩ (Value.ref (hp.objs.size + 1) :: us) _ _ E0 (hr.make C us []) (J2.env0.make C us []) bt r2 want) ?_))
  intro r s2 out
  match r, out with
  | .error _, z => exact False.elim z
  | .ok .next, z => exact False.elim z
  | .ok .brk, z => exact False.elim z
  | .ok .cont, z => exact False.elim z
  | .ok (.ret u), z =>
    obtain ⟨v, H2, J3, ru, rfl, q3⟩ := J2.after z
    exact ⟨ru, ⟨.ref (hp.objs.size + 1), H2, J3, rfl, q3⟩⟩
/-- C(), C without an own __init__ -/
def tXn (C : Addr) : TE := fun _ H Q => ∀ a, H a = none → Q (.ref a) (upd H a (exo a C none))
theorem pe_xn {x : Str} {C : Addr} {newId initId : String} (F : ExcBaseFacts B newId initId bmB) (q : PySem.W.excIn X.K C bmB newId = true) (kp : PySem.W.keepIn X.K (.ref C) = true) (hg : Gl X x) (hm : X.mg x = some (.ref C))
    (hdb : (x == ("__debug__" : Str)) = false := by decide) : PE X (.Call (.Name x p) [] [] pos) (tXn C) := by
  constructor
  intro pins s σ H Q I h
  refine wpAny_Call_Name_kw (ld_glob I hg hm ?_ hdb)
  refine PySem.W.callWith_K0 I.kIn kp ?_
  obtain ⟨bm, N, nm, qn, bs, hdct, sn, sub, ab, col, dd, k0, k1, k2, k3, k5, mN, hC, hN, hni, T⟩ := exc_obj I.kIn q
  obtain ⟨hp, g, d, t, os⟩ := s
  refine wpAny_call_exc_subT F T hC hN hni (fun h' b made => ?_) (by show 0 ≤ sizeLine; omega)
  have hn : H b = none := I.hok.gone made.new
  obtain ⟨t1, there, _, _⟩ := made.there
  exact ⟨.ref b, _, I.laidN made.keeps made.new hn (exo_ok there), rfl, h b hn⟩
end
end Rt
namespace Rt
open PySem PySem.Spec L2 LamX
open PyProof.Rows hiding St
/-! ### several except clauses, with names or without -/
abbrev Suite := Addr → Value → Option Addr → TS
inductive HdsA (X : Cx) : List ExceptHandler → List (Value × Option Nat × Suite) → Prop
  | none : HdsA X [] []
  | bare {x : Str} {c : Value} {ts : Suite} {s0 : Stmt} {more : List Stmt} {p q : Pos} {hds : List ExceptHandler} {l : List (Value × Option Nat × Suite)} (nm : Names X x c)
      (su : ∀ (a : Addr) (oe : Obj) (cls : Value) (d : Option Addr) (pn : List (Addr × Obj)), Zc cls d oe → (∃ vs, oe.data = .fields vs) → PSs (X.suite a ((a, oe) :: pn)) (s0 :: more) (ts a cls d)) (r : HdsA X hds l) :
      HdsA X (.ExceptHandler (some (.Name x p)) Option.none (s0 :: more) q :: hds) ((c, Option.none, ts) :: l)
  | named {x n : Str} {i : Nat} {c : Value} {ts : Suite} {s0 : Stmt} {more : List Stmt} {p q : Pos} {hds : List ExceptHandler} {l : List (Value × Option Nat × Suite)} (nm : Names X x c) (at_ : X.N[i]? = some n) (loc : X.env.kindOf n = some .local)
      (su : ∀ (a : Addr) (oe : Obj) (cls : Value) (d : Option Addr) (pn : List (Addr × Obj)), Zc cls d oe → (∃ vs, oe.data = .fields vs) → PSs (X.suite a ((a, oe) :: pn)) (s0 :: more) (ts a cls d)) (r : HdsA X hds l) :
      HdsA X (.ExceptHandler (some (.Name x p)) (some n) (s0 :: more) q :: hds) ((c, some i, ts) :: l)
/-- behind a suite the clause's name is gone -/
def unset (D : Ends) (i : Nat) : Ends := { nx := fun σ H => D.nx (σ.set i none) H, rt := D.rt, bk := fun σ H => D.bk (σ.set i none) H, ct := fun σ H => D.ct (σ.set i none) H }
def suiteOf (D : Ends) (σ : L2.St) (H : Hp) (cls : Value) (d : Option Addr) (ts : Suite) : Option Nat → Addr → Prop
  | none, a => ts a cls d D σ H
  | some i, a => ts a cls d (unset D i) (σ.set i (some (.ref a))) H
def wAny (K : PySem.W.Frag) (out : WX) (D : Ends) : List (Value × Option Nat × Suite) → WX
  | [] => out
  | (c, i, ts) :: l => fun cls d σ H => ∃ b, PySem.W.exmOne K cls c = some b ∧ (b = true → ∀ a, H a = none → suiteOf D σ H cls d ts i a) ∧ (b = false → wAny K out D l cls d σ H)
section
variable {X : Cx} {body : List Stmt} {h0 : ExceptHandler} {hds : List ExceptHandler} {l : List (Value × Option Nat × Suite)} {pos : Pos} {tb : WX → TS} {out : WX}
/-- a caught exception goes through the clauses -/
theorem clauses (frs_ : X.A.frames = some (X.env :: X.outer)) (fr : X.env.frame = some X.env.locals) (stk : X.stack = X.env :: X.outer) (nd : X.N.Nodup) (tk : Takes X out) {pins pins1 : List (Addr × Obj)} {σ1 : L2.St} {H1 : Hp} {D : Ends} {a : Addr} {B h3 : Heap} {sI s1 : Shared} {cls : Value} {d : Option Addr}
    (J : Inv X pins σ1 H1 sI) (nb : ∀ b o, sI.heap.get? b = some o → b ∉ frs X.stack → B.get? b = some o) (na : H1 a = none) (os : s1.os = sI.os) (ag : AllBare s1.gens)
    (fl : HandSPX.FlyingZ B (X.env :: X.outer) a (Zc cls d) h3) (up : sI.heap.UpToSlots h3) :
    ∀ {hds : List ExceptHandler} {l : List (Value × Option Nat × Suite)}, HdsA X hds l → wAny X.K out D l cls d σ1 H1 → wpAny (model X.prog X.w) X.A (handleBy (.ref a) X.env hds) (SP X pins D) X.xe { s1 with heap := h3 } := by
  have okX := J.ok
  have landed : ∀ {h : Heap}, HandSPX.FlyingZ B (X.env :: X.outer) a (Zc cls d) h → sI.heap.UpToSlots h → Inv X pins σ1 H1 { s1 with heap := h } := fun f u => J.landed (s' := { s1 with heap := _ }) nb f.1 u os ag
  have J3 := landed fl up
  obtain ⟨oe3, vs3, at3, z3, dt3⟩ := fl.there
  have notAFrame : a ∉ frs (X.env :: X.outer) := fun m => by
    obtain ⟨_, o, e, bad⟩ := fl.2.2.1.mem m
    cases at3.symm.trans e
    exact bad _ dt3
  have offLocals : a ≠ X.env.locals := fun z => notAFrame (List.mem_filterMap.mpr ⟨X.env, List.mem_cons_self, by rw [fr, z]⟩)
  have offFs : a ∉ X.fs := fun m => by
    obtain ⟨e, me, ee⟩ := List.mem_filterMap.mp m
    exact notAFrame (List.mem_filterMap.mpr ⟨e, List.mem_cons_of_mem _ me, ee⟩)
  have inSuite := J3.suite at3 dt3 na offLocals offFs
  have clsOf : PySem.W.Looks (model X.prog X.w) h3 (typeOf (.ref a)) cls := fun _ _ _ _ k q => wpAny_typeOf_ref (k _ _ at3) (by rw [z3.1]; exact q)
  -- the clause's name is looked up
  have name : ∀ {x : Str} {c : Value} {p : Pos} {Q E : Value → Shared → Prop}, Names X x c → Q c { s1 with heap := h3 } → wpAny (model X.prog X.w) (X.A.mark (some (.ref a))) (eval (.Name x p) X.env) Q E { s1 with heap := h3 } := by
    rintro x c p Q E ⟨gl, db, m | ⟨m, v, nn⟩⟩ q
    · exact ld_glob (X := X.suite a ((a, oe3) :: (X.pn ++ pins))) inSuite gl m q db
    · exact ld_blt (X := X.suite a ((a, oe3) :: (X.pn ++ pins))) inSuite gl m v q nn db
  intro hds l hk
  induction hk with
  | none =>
    intro wish
    refine wpAny_handleBy_nil ?_
    obtain ⟨_, _, _, oe, vs, T, oT, ts, e1, _, e2, e3, _⟩ := id fl
    have goes : wpAny (model X.prog X.w) X.A (setFlight (.ref a) X.env.frame) (fun _ s4 => wpAny (model X.prog X.w) X.A (throw (.ref a) : Sem Flow) (SP X pins D) X.xe s4) X.xe { s1 with heap := h3 } := by
      rw [fr]
      refine HandSPX.setFlight_upZ fl ?_
      intro h4 held up4
      refine wpAny_throw (tk _ _ ⟨a, B, sI, pins, σ1, H1, cls, d, rfl, J, nb, up.trans up4, .inr (.inr ?_), na, os, ag, wish⟩)
      rw [stk]
      exact held
    unfold PySem.passOn
    refine wpAny_bind (wpAny_field e1 e2 e3 ?_)
    rw [if_neg (by simp : ¬ ((Value.ref T == Value.none) = true))]
    first
      | exact wpAny_bind goes
      | exact wpAny_bind (wpAny_pure (wpAny_bind goes))
  | @bare x c ts s0 more p q hds2 l2 nm su r ih =>
    rintro ⟨b, eb, yes, no⟩
    refine wpAny_handleBy_cons (codeAny_handlers_test (name nm ((PySem.W.exm_one (M := model X.prog X.w) J3.kIn clsOf eb).here ?_))) nofun
    match b, eb, yes, no with
    | false, _, _, no => exact ih (no rfl)
    | true, _, yes, _ =>
      refine codeAny_handlers_suite (HandSPX.lands_againZ fl ?_)
      intro h4 fl4 up4
      obtain ⟨oe4, vs4, at4, z4, dt4⟩ := fl4.there
      have S4 := (landed fl4 (up.trans up4)).suite at4 dt4 na offLocals offFs
      have ran := (su a oe4 cls d (X.pn ++ pins) z4 ⟨_, dt4⟩).run [] _ _ H1 _ S4 (yes rfl a na)
      refine wpAny_mono ran ?_ (fun _ _ z => z.elim)
      intro way s6 out6
      match way, out6 with
      | .next, ⟨_, _, S6, q6⟩ => exact ⟨_, _, S6.unsuite okX, q6⟩
      | .brk, ⟨_, _, S6, q6⟩ => exact ⟨_, _, S6.unsuite okX, q6⟩
      | .cont, ⟨_, _, S6, q6⟩ => exact ⟨_, _, S6.unsuite okX, q6⟩
      | .ret u, ⟨_, _, _, S6, r6, q6⟩ => exact ⟨_, _, _, S6.unsuite okX, r6, q6⟩
  | @named x n i c ts s0 more p q hds2 l2 nm at_ loc su r ih =>
    rintro ⟨b, eb, yes, no⟩
    refine wpAny_handleBy_cons (codeAny_handlers_test (name nm ((PySem.W.exm_one (M := model X.prog X.w) J3.kIn clsOf eb).here ?_))) nofun
    match b, eb, yes, no with
    | false, _, _, no => exact ih (no rfl)
    | true, _, yes, _ =>
      refine codeAny_handlers_suite_as (HandSPX.lands_againZ fl ?_)
      intro h4 fl4 up4
      obtain ⟨oe4, vs4, at4, z4, dt4⟩ := fl4.there
      have S4 := (landed fl4 (up.trans up4)).suite at4 dt4 na offLocals offFs
      refine store_ok (X := X.suite a ((a, oe4) :: (X.pn ++ pins))) (v := .ref a) S4 nd at_ (.inl loc) rfl ?_ (.inr loc)
      intro s5 S5
      have ran := (su a oe4 cls d (X.pn ++ pins) z4 ⟨_, dt4⟩).run [] s5 _ H1 _ S5 (yes rfl a na)
      refine wpAny_mono ran ?_ (fun _ _ z => z.elim)
      intro way s6 out6
      have goesOut : ∀ {σ6 : L2.St} {H6 : Hp} {Q : Shared → Prop}, Inv (X.suite a ((a, oe4) :: (X.pn ++ pins))) [] σ6 H6 s6 → (∀ s7, Inv X pins (σ6.set i none) H6 s7 → Q s7) →
          wpAny (model X.prog X.w) X.A (do bindName X.env n .none; unbindBehindTheSuite X.env n q) (fun _ s7 => Q s7) X.xe s6 := fun S6 w => gone_ok (S6.unsuite okX) nd at_ loc w
      match way, out6 with
      | .next, ⟨_, _, S6, q6⟩ => exact goesOut S6 fun _ J7 => ⟨_, _, J7, q6⟩
      | .brk, ⟨_, _, S6, q6⟩ => exact goesOut S6 fun _ J7 => ⟨_, _, J7, q6⟩
      | .cont, ⟨_, _, S6, q6⟩ => exact goesOut S6 fun _ J7 => ⟨_, _, J7, q6⟩
      | .ret u, ⟨_, _, _, S6, r6, q6⟩ => exact goesOut S6 fun _ J7 => ⟨_, _, _, J7, r6, q6⟩
theorem ps_tryA (stk : X.stack = X.env :: X.outer) (fr : X.env.frame = some X.env.locals) (nd : X.N.Nodup) (tk : Takes X out)
    (hb : ∀ (W : WX) (pn : List (Addr × Obj)) (xe : Value → Shared → Prop), Takes (X.tr pn xe) W → PSs (X.tr pn xe) body (tb W)) (hh : HdsA X (h0 :: hds) l) :
    PS X (.Try body (h0 :: hds) [] [] pos) (fun D σ H => tb (fun cls d σ1 H1 => σ1.length = X.N.length → wAny X.K out D l cls d σ1 H1) D σ H) := by
  constructor
  intro pins s σ H D I want
  have okX := I.ok
  have frs_ : X.A.frames = some (X.env :: X.outer) := okX.frames.trans (congrArg some stk)
  refine wpAny_Try_except ?_
  have go := fun xe tk' => (hb (fun cls d σ1 H1 => σ1.length = X.N.length → wAny X.K out D l cls d σ1 H1) (X.pn ++ pins) xe tk').run [] s σ H D (I.toTry xe) want
  refine wpAny_mono (go (fun e s1 => wpAny (model X.prog X.w) X.A (noteFrame e X.env) (fun _ s2 => wpAny (model X.prog X.w) X.A (setFlight e none) (fun _ s3 => wpAny (model X.prog X.w) X.A (handleBy e X.env (h0 :: hds)) (SP X pins D) X.xe s3) X.xe s2) X.xe s1) ?_) ?_ (fun _ _ z => z)
  · rintro u s1 ⟨a, B, sI, pins1, σ1, H1, cls, d, rfl, J1, nb, up, sky, na, os, ag, wish⟩
    have J : Inv X pins σ1 H1 sI := J1.ofTry okX
    have sky1 : Sky B (X.env :: X.outer) a (Zc cls d) X.env.locals s1.heap := by rw [← stk]; exact sky
    refine Sky.land Zc.steady frs_ fr sky1 ?_
    intro h3 fl up3
    exact clauses (pins1 := pins1) frs_ fr stk nd tk J nb na os ag fl (up.trans up3) hh (wish J.len)
  · intro way s1 out1
    match way, out1 with
    | .next, ⟨_, _, J, q⟩ => exact wpAny_execs_nil ⟨_, _, J.ofTry okX, q⟩
    | .brk, ⟨_, _, J, q⟩ => exact ⟨_, _, J.ofTry okX, q⟩
    | .cont, ⟨_, _, J, q⟩ => exact ⟨_, _, J.ofTry okX, q⟩
    | .ret u, ⟨_, _, _, J, r, q⟩ => exact ⟨_, _, _, J.ofTry okX, r, q⟩
end
/-! ### raising an own exception without arguments -/
section
variable {X : Cx} {C : Addr} {bmB : List Value} {B newId initId : String}
theorem pmk_own0 {x : Str} {p pos : Pos} (F : ExcBaseFacts B newId initId bmB) (q : PySem.W.excIn X.K C bmB newId = true) (gC : X.mg x = some (.ref C)) (kC : PySem.W.keepIn X.K (.ref C) = true) (r : Raises X (.ref C)) (hg : Gl X x)
    (hdb : (x == ("__debug__" : Str)) = false := by decide) : PMk X (.Call (.Name x p) [] [] pos) (fun _ H Q => Q (.ref C) none H) := by
  intro pins s σ H Q I want
  refine wpAny_Call_Name_kw (ld_glob I hg gC ?_ hdb)
  refine PySem.W.callWith_K0 I.kIn kC ?_
  obtain ⟨bm, N, nm, qn, bs, hdct, sn, sub, ab, col, dd, k0, k1, k2, k3, k5, mN, there, names, noInit, tail⟩ := exc_obj I.kIn q
  obtain ⟨hp, g, dr, tk, os⟩ := s
  refine wpAny_call_exc_subT F tail there names noInit ?_ (by show 0 ≤ sizeLine; decide)
  intro h1 e made
  exact mk_of I made r want (I.hok.gone made.new)
end
/-! ### defs that may raise -/
structure CfX (P : Program) (w : World) (K : PySem.W.Frag) (mg : Str → Option Value) (base : Heap) (k : Nat) (x : Str) (sp : Sp) : Prop where
  ex : ∃ (f : Addr) (fd : FuncData) (ps : List Str), FnOk P w K mg base (L2.CX P w) k f fd ps sp ∧ mg x = some (.ref f) ∧ PySem.W.keepIn K (.ref f) = true ∧ Binds K fd ps []
section
variable {P : Program} {w : World} {K : PySem.W.Frag} {mg : Str → Option Value} {base : Heap} {k : Nat} {x : Str} {sp : Sp} {st : Stmt}
theorem At.cfx {ps : List Str} (A : At K mg x st) (ok : ∀ (f : Addr) (fd : FuncData), Fun K x x st f fd → FnOk P w K mg base (L2.CX P w) k f fd ps sp)
    (bd : ∀ (f : Addr) (fd : FuncData), Fun K x x st f fd → Binds K fd ps []) : CfX P w K mg base k x sp := by
  obtain ⟨f, fd, F, m⟩ := A.ex
  exact ⟨f, fd, ps, ok f fd F, m, F.kp, bd f fd F⟩
end
section
variable {X : Cx} {k j : Nat} {x : Str} {sp : Sp} {p pos : Pos} {e : Expr} {es : List Expr} {t : TA} {E : XK} {W : WX}
theorem pe_fx (c : CfX X.prog X.w X.K X.mg X.base k x sp) (hr : Room j X.A) (hk : k ≤ j) (hx : Gl X x) (tk : Takes X W) (hW : ∀ cls d σ H, E cls d H → W cls d σ H) (ha : PA X (e :: es) t)
    (hdb : (x == ("__debug__" : Str)) = false := by decide) (he : starEach (e :: es) X.env = (false, eval e X.env) :: starEach es X.env := by rfl)
    (hpl : (backTo pos (starEach es X.env)).any (·.1) = false := by rfl) : PE X (.Call (.Name x p) (e :: es) [] pos) (tCall sp [] E t) := by
  obtain ⟨f, fd, ps, F, hm, kp, bd⟩ := c.ex
  exact pe_call F (hr.mono hk) hx hm kp bd .nil (passes_call tk hW) ha hdb he hpl
/-- a call with what is let out told by the slots where it stands -/
theorem pe_fxS (c : CfX X.prog X.w X.K X.mg X.base k x sp) (hr : Room j X.A) (hk : k ≤ j) (hx : Gl X x) (tk : Takes X W) (ha : PA X (e :: es) t)
    (hdb : (x == ("__debug__" : Str)) = false := by decide) (he : starEach (e :: es) X.env = (false, eval e X.env) :: starEach es X.env := by rfl)
    (hpl : (backTo pos (starEach es X.env)).any (·.1) = false := by rfl) : PE X (.Call (.Name x p) (e :: es) [] pos) (tCallS sp (WE W) t) := by
  obtain ⟨f, fd, ps, F, hm, kp, bd⟩ := c.ex
  exact pe_callS F (hr.mono hk) hx hm kp bd (fun σ => passAt tk σ) ha hdb he hpl
end
end Rt
namespace Rt
open PySem PySem.Spec L2 LamX
open PyProof.Rows hiding St
/-! ### the law's own call, with tables of code objects -/
/-- x's def holds lambdas: its code object at c, the table at P -/
structure LamT (K : PySem.W.Frag) (mg : Str → Option Value) (x : Str) (c P : Addr) : Prop where
  ex : ∃ (f : Addr) (o oc : Obj) (fd : FuncData) (vs : Array Value), mg x = some (.ref f) ∧ K.lookup f = some o ∧ o.data = .func fd ∧ fd.code = .ref c ∧ K.lookup c = some oc ∧ oc.data = .fields vs ∧ vs[11]? = some (.ref P)
  out : K.lookup P = none
/-- the tables, and nothing else but the script -/
structure BareT (H : Hp) (K : PySem.W.Frag) (a : Addr) (ps : List Addr) : Prop where
  only : ∀ b, H b = none ∨ b ∈ ps ∨ ∃ o xs, H b = some (.frz o (.lst xs))
  tbl : ∀ b, b ∈ ps → H b = some (.tbl #[])
  here : ∀ b, H b ≠ none → b = a ∨ b ∈ ps
  notK : H a ≠ none → K.lookup a = none
/-- what the head says of a def's table -/
structure HeadT (h : Heap) (K : PySem.W.Frag) (c P : Addr) : Prop where
  hd : PySem.W.CodeHd h c P
  nil : h.get? P = some { cls := .none, data := .fields #[] }
  out : K.lookup P = none
section
variable {P : Program} {w : World} {K : PySem.W.Frag} {mg mb : Str → Option Value} {k : Nat} {fa a : Addr} {fd : FuncData} {x : Str} {sp : Sp} {s₁ : Shared} {vs : List Value} {ns : List Int} {cs : List (Addr × Addr)}
theorem bare_callT {H : Hp} (B : BareT H K a (cs.map (·.2))) (ok : HOk P w H s₁.heap) (KX : K.In s₁.heap) (hns : s₁.heap.Ns mainGlobals mg) (hb : s₁.heap.Ns builtinsNs mb) (hbb : ∀ x : Str, x ≠ "__name__" → mb x = bootBuiltins x)
    (lim : s₁.heap.NoLimit) (gens : s₁.gens = #[]) (heads : ∀ p ∈ cs, HeadT s₁.heap K p.1 p.2)
    (bmain : ∃ (bm : Addr) (ob : Obj), mg "__builtins__" = some (.ref bm) ∧ bm ≠ builtinsNs ∧ s₁.heap.get? bm = some ob ∧ ob.cls = .type "module" ∧ ob.dict = some builtinsNs ∧ ob.data = .plain)
    (ha : s₁.heap.get? a = some { cls := .type "list", data := .seq vs.toArray }) (room : Room k callerA)
    (F : ∀ base : Heap, K.In base → base.Ns mainGlobals mg → (∀ p ∈ cs, TabB base mg p.1 p.2) → FnG P w K mg base k fa fd [x] sp) (bind : ∀ (s : Shared) (u : Value), BindsTo s fd ⟨[u], []⟩ [(x, u)])
    (want : sp [.ref a] H (fun v _ => v = .bl true) E0) : codeAny (model P w) callerA (.call (.ref fa) ⟨[.ref a], []⟩) (isTrue1 s₁) s₁ := by
  have tblAt : ∀ b, b ∈ cs.map (·.2) → s₁.heap.get? b = some { cls := .none, data := .fields #[] } := by
    intro b m
    obtain ⟨p, mp, rfl⟩ := List.mem_map.mp m
    exact (heads p mp).nil
  -- what is neither a list nor an empty record is untracked
  have free : ∀ {b : Addr} {o : Obj}, s₁.heap.get? b = some o → (∀ us n, o.data ≠ .seq us n) → o.data ≠ .fields #[] → H b = none := by
    intro b o e n1 n2
    by_cases z : H b = none
    · exact z
    · exfalso
      rcases B.here b z with y | y
      · subst y
        cases ha.symm.trans e
        exact n1 _ _ rfl
      · cases (tblAt b y).symm.trans e
        exact n2 rfl
  have freeD : ∀ {b : Addr} {o : Obj} {es : Array DictEntry} {ep : Nat}, s₁.heap.get? b = some o → o.data = .dict es ep → H b = none := fun e d =>
    free e (fun _ _ z => nomatch d.symm.trans z) (fun z => nomatch d.symm.trans z)
  have freeP : ∀ {b : Addr} {o : Obj}, s₁.heap.get? b = some o → o.data = .plain → H b = none := fun e d =>
    free e (fun _ _ z => nomatch d.symm.trans z) (fun z => nomatch d.symm.trans z)
  have freeF : ∀ {b : Addr} {o : Obj} {us : Array Value} {v : Value}, s₁.heap.get? b = some o → o.data = .fields us → us[11]? = some v → H b = none := fun e d g => by
    refine free e (fun _ _ z => nomatch d.symm.trans z) (fun z => ?_)
    cases d.symm.trans z
    simp at g
  have freeK : ∀ {b : Addr} {o : Obj}, K.lookup b = some o → H b = none := by
    intro b o e
    by_cases z : H b = none
    · exact z
    · exfalso
      rcases B.here b z with y | y
      · subst y
        exact nomatch (B.notK z).symm.trans e
      · obtain ⟨p, mp, rfl⟩ := List.mem_map.mp y
        exact nomatch (heads p mp).out.symm.trans e
  have names : ∀ {b : Addr} {m : Str → Option Value}, s₁.heap.Ns b m → (hidT s₁.heap H).Ns b m := by
    rintro b m ⟨o, es, ep, e, d, r⟩
    exact ⟨o, es, ep, hidT_get e (freeD e d), d, r⟩
  have inBase : K.In (hidT s₁.heap H) := fun b o e => hidT_get (KX b o e) (freeK e)
  have noLim : (hidT s₁.heap H).NoLimit := by
    obtain ⟨mc, z1, z2⟩ := lim
    exact ⟨mc, names z1, z2⟩
  have notTable : ∀ {b : Addr} {o : Obj}, s₁.heap.get? b = some o → (∃ es ep, o.data = .dict es ep) ∨ o.data = .plain → ∀ p ∈ cs, b ≠ p.2 := by
    rintro b o e d p mp rfl
    cases (heads p mp).nil.symm.trans e
    rcases d with ⟨_, _, d⟩ | d <;> cases d
  have tables : ∀ p ∈ cs, TabB (hidT s₁.heap H) mg p.1 p.2 := by
    intro p mp
    obtain ⟨oG, esG, epG, eG, dG, rG⟩ := id hns
    constructor
    · obtain ⟨o, us, file, tf, flags, tg, inF, text, tt, e1, e2, e3, e4, rest⟩ := (heads p mp).hd
      exact ⟨o, us, file, tf, flags, tg, inF, text, tt, hidT_get e1 (freeF e1 e3 e4), e2, e3, e4, rest⟩
    · obtain ⟨bm, ob, z1, z2, z3, z4, z5, z6⟩ := bmain
      refine ⟨bm, ob, z1, z2, ?_, notTable z3 (.inr z6) p mp, hidT_get z3 (freeP z3 z6), z4, z5, z6⟩
      intro y
      rw [y] at z3
      cases eG.symm.trans z3
      cases dG.symm.trans z6
    · exact notTable eG (.inl ⟨_, _, dG⟩) p mp
  have e0 : Env0 P w K mg (hidT s₁.heap H) callerA [] s₁ H := by
    constructor
    · rfl
    · exact ⟨inBase, names hns, ⟨mb, names hb, hbb⟩, noLim⟩
    · exact fun b o e => of_hidT e
    · exact Nat.le_of_eq (hidT_size _ _)
    · exact True.intro
    · exact fun b hb => nomatch (show b ∈ ([] : List Addr) from hb)
    · exact ok
    · exact .of_eq gens
  have run := (F _ inBase (names hns) tables).go callerA rfl room [] s₁ H ⟨[.ref a], []⟩ [.ref a] [.ref a] _ _ e0 (bind s₁ (.ref a)) (.cons rfl .nil) want
  refine codeAny_mono run ?_
  intro r s2 out
  match r, out with
  | .error _, z => exact False.elim z
  | .ok .next, z => exact False.elim z
  | .ok .brk, z => exact False.elim z
  | .ok .cont, z => exact False.elim z
  | .ok (.ret u), ⟨v, H2, os, bare, un, ok2, ru, q⟩ =>
    obtain rfl : v = .bl true := q
    obtain rfl : u = Value.bool true := ru
    have same : ∀ b o, b ∉ cs.map (·.2) → s₁.heap.get? b = some o → s2.heap.get? b = some o := by
      intro b o nt e
      by_cases z : H b = none
      · exact un.keep b o e z (fun y => nomatch (show b ∈ ([] : List Addr) from y)) (fun y => nomatch (show b ∈ ([] : List Addr) from y))
      · rcases B.only b with y | y | ⟨ob, xs, y⟩
        · exact absurd y z
        · exact absurd y nt
        · have e1 := (ok b _ y).1
          have e2 := (ok2 b _ (un.frzs b ob _ y)).1
          cases e1.symm.trans e
          exact e2
    have grown : ∀ p ∈ cs, ∃ more : Array Value, s2.heap.get? p.2 = some { cls := .none, data := .fields more } := by
      intro p mp
      obtain ⟨more, z⟩ := un.tbls p.2 #[] (B.tbl _ (List.mem_map.mpr ⟨p, mp, rfl⟩))
      exact ⟨_, ok2 p.2 _ z⟩
    refine ⟨rfl, ⟨?_, ?_⟩, os, bare⟩
    · intro b o e
      by_cases m : b ∈ cs.map (·.2)
      · obtain ⟨p, mp, rfl⟩ := List.mem_map.mp m
        obtain ⟨more, z⟩ := grown p mp
        have T := heads p mp
        cases T.nil.symm.trans e
        refine .inr (.inl ⟨(T.hd.tab T.nil).isCodeTable, rfl, #[], more, rfl, ?_⟩)
        rw [Array.empty_append]
        exact z
      · exact .inl (same b o m e)
    · intro b o e
      by_cases m : b ∈ cs.map (·.2)
      · obtain ⟨p, mp, rfl⟩ := List.mem_map.mp m
        obtain ⟨more, z⟩ := grown p mp
        exact ⟨_, z⟩
      · exact ⟨o, same b o m e⟩
theorem law_gT (KX : K.In s₁.heap) (hns : s₁.heap.Ns mainGlobals mg) (hb : s₁.heap.Ns builtinsNs mb) (hbb : ∀ x : Str, x ≠ "__name__" → mb x = bootBuiltins x) (lim : s₁.heap.NoLimit) (gens : s₁.gens = #[]) (heads : ∀ p ∈ cs, HeadT s₁.heap K p.1 p.2)
    (bmain : ∃ (bm : Addr) (ob : Obj), mg "__builtins__" = some (.ref bm) ∧ bm ≠ builtinsNs ∧ s₁.heap.get? bm = some ob ∧ ob.cls = .type "module" ∧ ob.dict = some builtinsNs ∧ ob.data = .plain)
    (ha : s₁.heap.get? a = some { cls := .type "list", data := .seq vs.toArray }) (nums : IntsAre vs ns) (fit : ns.length ≤ sizeLine) (room : Room k callerA)
    (F : ∀ base : Heap, K.In base → base.Ns mainGlobals mg → (∀ p ∈ cs, TabB base mg p.1 p.2) → FnG P w K mg base k fa fd [x] sp) (bind : ∀ (s : Shared) (u : Value), BindsTo s fd ⟨[u], []⟩ [(x, u)])
    (want : ∀ H : Hp, (∀ p ∈ cs, H p.2 = some (.tbl #[])) → SqL K H a (ns.map V.int) → sp [.ref a] H (fun v _ => v = .bl true) E0) :
    codeAny (model P w) callerA (.call (.ref fa) ⟨[.ref a], []⟩) (isTrue1 s₁) s₁ := by
  have rv := vals_ints nums
  have lv := nums.length
  have inT : ∀ p ∈ cs, p.2 ∈ cs.map (·.2) := fun p mp => List.mem_map.mpr ⟨p, mp, rfl⟩
  have tblAt : ∀ b, b ∈ cs.map (·.2) → s₁.heap.get? b = some { cls := .none, data := .fields #[] } := by
    intro b m
    obtain ⟨p, mp, rfl⟩ := List.mem_map.mp m
    exact (heads p mp).nil
  have aNot : a ∉ cs.map (·.2) := fun m => nomatch ha.symm.trans (tblAt a m)
  rcases hk : K.lookup a with _ | o
  · let H : Hp := fun b => if b = a then some (.frz { cls := .type "list", data := .seq vs.toArray } (.lst (ns.map V.int))) else if b ∈ cs.map (·.2) then some (.tbl #[]) else none
    have Ha : H a = some (.frz { cls := .type "list", data := .seq vs.toArray } (.lst (ns.map V.int))) := if_pos rfl
    have Ht : ∀ b, b ∈ cs.map (·.2) → H b = some (.tbl #[]) := fun b m => (if_neg (fun (z : b = a) => aNot (by rw [← z]; exact m))).trans (if_pos m)
    have Hn : ∀ b, b ≠ a → b ∉ cs.map (·.2) → H b = none := fun b z y => (if_neg z).trans (if_neg y)
    have ok : HOk P w H s₁.heap := fun b u e => by
      by_cases y : b = a
      · subst y
        cases Ha.symm.trans e
        refine ⟨ha, ?_, vs, _, rv, ha⟩
        rw [List.length_map]
        exact fit
      · by_cases m : b ∈ cs.map (·.2)
        · cases (Ht b m).symm.trans e
          exact tblAt b m
        · exact nomatch (Hn b y m).symm.trans e
    refine bare_callT (H := H) ⟨fun b => ?_, Ht, fun b z => ?_, fun _ => hk⟩ ok KX hns hb hbb lim gens heads bmain ha room F bind (want H (fun p mp => Ht _ (inT p mp)) (.inl (.inr ⟨_, Ha⟩)))
    · by_cases z : b = a
      · subst z
        exact .inr (.inr ⟨_, _, Ha⟩)
      · by_cases m : b ∈ cs.map (·.2)
        · exact .inr (.inl m)
        · exact .inl (Hn b z m)
    · by_cases y : b = a
      · exact .inl y
      · by_cases m : b ∈ cs.map (·.2)
        · exact .inr m
        · exact absurd (Hn b y m) z
  · have e := KX a o hk
    cases ha.symm.trans e
    let H : Hp := fun b => if b ∈ cs.map (·.2) then some (.tbl #[]) else none
    have Ht : ∀ b, b ∈ cs.map (·.2) → H b = some (.tbl #[]) := fun b m => if_pos m
    have Hn : ∀ b, b ∉ cs.map (·.2) → H b = none := fun b m => if_neg m
    have ok : HOk P w H s₁.heap := fun b u e => by
      by_cases m : b ∈ cs.map (·.2)
      · cases (Ht b m).symm.trans e
        exact tblAt b m
      · exact nomatch (Hn b m).symm.trans e
    refine bare_callT (H := H) ⟨fun b => ?_, Ht, fun b z => ?_, fun z => absurd (Hn a aNot) z⟩ ok KX hns hb hbb lim gens heads bmain ha room F bind (want H (fun p mp => Ht _ (inT p mp)) (.inr ⟨_, vs.toArray, _, hk, rfl, rfl, rfl, ?_, by simpa using rv⟩))
    · by_cases m : b ∈ cs.map (·.2)
      · exact .inr (.inl m)
      · exact .inl (Hn b m)
    · by_cases m : b ∈ cs.map (·.2)
      · exact .inr m
      · exact absurd (Hn b m) z
    · rw [List.size_toArray, lv]
      exact fit
theorem walk_gT {l : PySem.W.OpenLaw} {n k : Nat} {q : Program} {loose : List Str} {XP : (Str → Option Value) → Heap → Prop} {YP : World → Heap → Prop} {d : DefRec} {K : Params → PySem.W.Frag} {x : Str}
    (hn : l.most = some n) (le : n ≤ sizeLine) (noDf : d.params.defaults = []) (room : Room k callerA) (hY : ∀ (w : World) (h : Heap), YP w h → (K w.params).In h)
    (F : ∀ (w : World) (mg : Str → Option Value) (fa : Addr) (h : Heap), (K w.params).In h → h.Ns mainGlobals mg → mg d.name = some (.ref fa) →
      ∃ (fd : FuncData) (ts : List (Str × Addr × Addr)) (sp : Sp), (∀ t ∈ ts, LamT (K w.params) mg t.1 t.2.1 t.2.2 ∧ ((recsOf q).any fun e => e.name == t.1) = true) ∧ (∀ (s : Shared) (u : Value), BindsTo s fd ⟨[u], []⟩ [(x, u)]) ∧
        (∀ (H : Hp) (a : Addr) (ns : List Int), ns.length ≤ n → (∀ t ∈ ts, H t.2.2 = some (.tbl #[])) → SqL (K w.params) H a (ns.map V.int) → sp [.ref a] H (fun v _ => v = .bl true) E0) ∧
        ∀ base : Heap, (K w.params).In base → base.Ns mainGlobals mg → (∀ t ∈ ts, TabB base mg t.2.1 t.2.2) → FnG l.prog w (K w.params) mg base k fa fd [x] sp) :
    PySem.W.WalkO q loose XP YP l.row.toRowW d [] (fun f vs => PySem.call f vs) := by
  refine Att.attach_call hn noDf ?_
  intro w s₀ s₁ mg mb fa o pm cd doc a vs ns G Y ho hd hcd hmg hobj nums few gens
  have KX := hY w _ Y
  obtain ⟨fd, ts, sp, lams, bind, want, each⟩ := F w mg fa _ KX G.T.g hmg
  have heads : ∀ p ∈ ts.map (·.2), HeadT s₁.heap (K w.params) p.1 p.2 := by
    intro p mp
    obtain ⟨t, mt, rfl⟩ := List.mem_map.mp mp
    obtain ⟨L, any⟩ := lams t mt
    obtain ⟨f, o1, oc, fd1, us, g1, g2, g3, g4, g5, g6, g7⟩ := L.ex
    obtain ⟨dL, md, en⟩ := List.any_eq_true.mp any
    have en2 : dL.name = t.1 := beq_iff_eq.mp en
    obtain ⟨a1, o2, fd2, c2, P2, h1, h2, h3, h4, h5, h6⟩ := G.T.tab dL md
    rw [en2, g1] at h1
    cases h1
    cases (KX _ _ g2).symm.trans h2
    cases g3.symm.trans h3
    cases g4.symm.trans h4
    have hc := PySem.W.CodeHd.of h5 h6
    obtain ⟨⟨o3, us3, e1, e2, e3, e4⟩, nil⟩ := h6
    cases (KX _ _ g5).symm.trans e1
    cases g6.symm.trans e3
    cases g7.symm.trans e4
    exact ⟨hc, nil, L.out⟩
  refine law_gT (sp := sp) (cs := ts.map (·.2)) KX G.T.g G.T.b G.T.builtins G.T.nolimit gens heads G.T.bmain hobj nums (Nat.le_trans few le) room ?_ bind ?_
  · exact fun base z1 z2 z3 => each base z1 z2 fun t mt => z3 t.2 (List.mem_map.mpr ⟨t, mt, rfl⟩)
  · exact fun H z1 z2 => want H a ns few (fun t mt => z1 t.2 (List.mem_map.mpr ⟨t, mt, rfl⟩)) z2
end
/-! ### heaps in which tables may grow -/
/-- all but the source, its list and the tables stays -/
def KeepN (d c : Addr) (H H' : Hp) : Prop := ∀ b o, H b = some o → b ≠ d → b ≠ c → (∀ ps, o ≠ .tbl ps) → H' b = some o
theorem KeepN.trans {d c : Addr} {H H1 H2 : Hp} (a : KeepN d c H H1) (b : KeepN d c H1 H2) : KeepN d c H H2 := fun x o e n1 n2 n3 => b x o (a x o e n1 n2 n3) n1 n2 n3
theorem KeepN.of_ext {d c : Addr} {H H' : Hp} (a : ExtN H H') : KeepN d c H H' := fun x o e _ _ n => a x o e n
theorem KeepN.refl {d c : Addr} {H : Hp} : KeepN d c H H := fun _ _ e _ _ _ => e
theorem ExtN.of_same {H H' : Hp} (s : Same H H') : ExtN H H' := fun b o e _ => s b o e
theorem Tabs.same {T : List (Addr × Str)} {H H' : Hp} (t : Tabs T H) (s : Same H H') : Tabs T H' := t.ext s
end Rt
namespace Rt
open PySem PySem.Spec L2 LamX
open PyProof.Rows hiding St
/-! ### raising exceptions of one's own that keep what they are made with -/
abbrev veT : List Value := [.type "ValueError", .type "Exception", .type "BaseException", .type "object"]
abbrev leT : List Value := [.type "LookupError", .type "Exception", .type "BaseException", .type "object"]
/-- a class without an own __init__ over ValueError -/
structure Easy (K : PySem.W.Frag) (mg : Str → Option Value) (x : Str) (C : Addr) : Prop where
  m : mg x = some (.ref C)
  q : PySem.W.excIn K C veT "ValueError.__new__" = true
  kp : PySem.W.keepIn K (.ref C) = true
  cc : ExcC K C
  ty : PySem.W.typeIn K (.ref C) = some (.type "type")
/-- a class with an own __init__ that keeps one thing -/
structure Own (K : PySem.W.Frag) (mg : Str → Option Value) (x qual attr : Str) (st : Stmt) (bm : List Value) (newId : String) (C : Addr) : Prop where
  m : mg x = some (.ref C)
  M : ExM K C bm
  i : PySem.W.excInitIn K C bm newId = true
  ty : PySem.W.typeIn K (.ref C) = some (.type "type")
  no : PySem.W.findIn K (.ref C) attr = some none
  ex : ∃ (f : Addr) (fd : FuncData), PySem.W.findIn K (.ref C) "__init__" = some (some (.ref f)) ∧ PySem.W.typeIn K (.ref f) = some (.type "function") ∧ Fun K "__init__" qual st f fd
section
variable {K : PySem.W.Frag} {mg : Str → Option Value} {h : Heap} {x qual attr : Str} {C f : Addr}
theorem easy_mk (X : K.In h) (G : h.Ns mainGlobals mg) (a : PySem.W.nsIn K mainGlobals x = some (some (.ref C))) (kp : PySem.W.keepIn K (.ref C) = true) (cc : ExcC K C) (q : PySem.W.excIn K C veT "ValueError.__new__" = true) (ty : PySem.W.typeIn K (.ref C) = some (.type "type")) : Easy K mg x C := ⟨PySem.W.mg_of X G a, q, kp, cc, ty⟩
theorem own_mk {st : Stmt} {bm : List Value} {newId : String} {oc kV dc pm cd ct : Value} {od an : Option Addr} {sl : Array (Option Value)} (X : K.In h) (G : h.Ns mainGlobals mg) (a : PySem.W.nsIn K mainGlobals x = some (some (.ref C)))
    (over : PySem.W.excOver K C bm = true) (sa : PySem.W.findIn K (.ref C) "__setattr__" = some (some (.builtin "object.__setattr__"))) (cc : ExcC K C) (kp : PySem.W.keepIn K (.ref C) = true) (ty : PySem.W.typeIn K (.ref C) = some (.type "type"))
    (i : PySem.W.excInitIn K C bm newId = true) (fnd : PySem.W.findIn K (.ref C) "__init__" = some (some (.ref f))) (tf : PySem.W.typeIn K (.ref f) = some (.type "function")) (no : PySem.W.findIn K (.ref C) attr = some none)
    (l : K.lookup f = some ⟨oc, od, .func (PySem.W.fnOf "__init__" qual (defArgs st) (defBody st) (defScope st) .none kV dc pm an cd ct), sl⟩) (c : PySem.W.codeIn K cd qual = true) (k : PySem.W.keepIn K (.ref f) = true) : Own K mg x qual attr st bm newId C :=
  ⟨PySem.W.mg_of X G a, ⟨over, sa, cc, kp⟩, i, ty, no, ⟨f, _, fnd, tf, fun_mk l c k⟩⟩
end
section
variable {X : Cx} {e : Expr} {es : List Expr} {ta : TA} {p p' pos pos' : Pos} {B : String} {bmB : List Value}
/-- what is asked of a making of C(e, ..), C's __init__ keeping sp -/
def Mak (C : Addr) (sp : Sp) (vs : List V) (H1 : Hp) (Q : XK) : Prop := vs.length ≤ 1000 ∧ ∀ a, H1 a = none → sp (.ref a :: vs) (upd H1 a (exo a C none))
  (fun v H2 => v = .non ∧ ∃ (d : Addr) (fs : List (Str × V)), H2 a = some (exo a C (some d)) ∧ H2 d = some (exd d fs) ∧ H1 d = none ∧ Q (.ref C) (some d) (upd (del H2 a) d (.xd fs))) E0
theorem pmk_xm {R : List V → Hp → XK → Prop} {x : Str} {C fI : Addr} {k : Nat} {fd : FuncData} {ps : List Str} {sp : Sp} {newId initId : String} (F : ExcBaseFacts B newId initId bmB) (M : ExM X.K C bmB) (rs : Raises X (.ref C)) (ini : PySem.W.excInitIn X.K C bmB newId = true)
    (iC : PySem.W.findIn X.K (.ref C) "__init__" = some (some (.ref fI))) (tI : PySem.W.typeIn X.K (.ref fI) = some (.type "function")) (G : FnOk X.prog X.w X.K X.mg X.base CX0 k fI fd ps sp) (hr : Room (k + 1) X.A) (hb : Binds X.K fd ps [])
    (hg : Gl X x) (hm : X.mg x = some (.ref C)) (ha : PA X (e :: es) ta) (hR : ∀ vs H1 Q, R vs H1 Q → Mak C sp vs H1 Q) (hdb : (x == ("__debug__" : Str)) = false := by decide) (he : starEach (e :: es) X.env = (false, eval e X.env) :: starEach es X.env := by rfl)
    (hpl : (backTo pos (starEach es X.env)).any (·.1) = false := by rfl) : PMk X (.Call (.Name x p) (e :: es) [] pos) (fun σ H Q => ta σ H fun vs H1 => R vs H1 Q) := by
  intro pins s σ H Q I h
  refine wpAny_Call_Name_kw (ld_glob I hg hm ?_ hdb)
  refine PySem.W.callWith_K (h₀ := X.base) I.ok.mod.kin M.kp (thn (ha.run pos pins s σ H _ I h) ?_) he hpl
  rintro us s1 ⟨vs, H1, J, rv, qR⟩
  obtain ⟨few, q⟩ := hR _ _ _ qR
  refine ⟨J.kIn, ?_⟩
  show wpAny _ _ (call (.ref C) us) _ _ _
  obtain ⟨hp, g, dr, tk, os⟩ := s1
  obtain ⟨nm, N, qn, bs, bm, hdct, sn, sub, ab, col, dd, k0, k1, k2, k3, k5, hC, tail⟩ := PySem.W.excInit_of J.kIn ini
  have le : hp.objs.size ≤ hp.objs.size + 1 := Nat.le_succ _
  have hn : H1 (hp.objs.size + 1) = none := J.hok.fresh le
  have want := q (hp.objs.size + 1) hn
  have kept : ∀ b o, hp.get? b = some o → ((hp.push (PySem.W.kdv_tup us)).push (PySem.HandSPX.excO C hp.objs.size)).get? b = some o := fun b o z => Heap.get?_push_of_some _ (Heap.get?_push_of_some _ z)
  have got : ((hp.push (PySem.W.kdv_tup us)).push (PySem.HandSPX.excO C hp.objs.size)).get? (hp.objs.size + 1) = some (PySem.HandSPX.excO C hp.objs.size) := by heap_get
  have J2 : Inv X pins σ (upd H1 (hp.objs.size + 1) (exo (hp.objs.size + 1) C none)) ⟨(hp.push (PySem.W.kdv_tup us)).push (PySem.HandSPX.excO C hp.objs.size), g, dr, tk, os⟩ :=
    J.laid (t' := tk) kept le (exo_ok got)
  have r2 : Vals (V.ref (hp.objs.size + 1) :: vs) (Value.ref (hp.objs.size + 1) :: us) := .cons rfl rv
  have hl : (Value.ref (hp.objs.size + 1) :: us).length = ps.length := by
    rw [← r2.length]
    exact G.len _ _ _ _ want
  have hus : us.length ≤ sizeLine := by
    rw [← Paired.length rv, sizeLine_eq]
    omega
  have bt : BindsTo ⟨(hp.push (PySem.W.kdv_tup us)).push (PySem.HandSPX.excO C hp.objs.size), g, dr, tk, os⟩ fd ⟨Value.ref (hp.objs.size + 1) :: us, []⟩ (ps.zip (Value.ref (hp.objs.size + 1) :: us)) := by
    have z := hb _ (Value.ref (hp.objs.size + 1) :: us) J2.kIn (by simpa using hl)
    simpa using z
  refine wpAny_call (PySem.HandSPX.call_own F tail hC (PySem.W.looks_findIn J.kIn iC) (fun self => PySem.W.bind_fn J.kIn self tI) hus
    (codeAny_mono (G.run _ X.stack _ _ ⟨Value.ref (hp.objs.size + 1) :: us, []⟩ (Value.ref (hp.objs.size + 1) :: us) _ _ E0 (hr.make C us []) (J2.env0.make C us []) bt r2 want) ?_))
  intro r s2 out
  match r, out with
  | .error _, z => exact False.elim z
  | .ok .next, z => exact False.elim z
  | .ok .brk, z => exact False.elim z
  | .ok .cont, z => exact False.elim z
  | .ok (.ret u), ⟨v, H2, os2, bare2, un2, ok2, ru, hv, d, fs, ea, ed, nd, q2⟩ =>
    subst hv
    obtain ⟨h2, g2, d2, t2, os3⟩ := s2
    exact ⟨ru, mk_end rs J le kept un2 ok2 os2 bare2 ea ed nd q2⟩
/-- what an __init__ that keeps a tuple of its argument promises -/
def spIniT (C : Addr) (attr : Str) : Sp := fun vs H Q _ => ∃ (a p : Addr) (xs : List V), vs = [.ref a, .ref p] ∧ H a = some (exo a C none) ∧ (H p = some (.lst xs) ∨ H p = some (.tup xs)) ∧ xs.length ≤ 1000 ∧
  ∀ (d q : Addr) (H' : Hp), H d = none → d ≠ a → H' a = some (exo a C (some d)) → H' d = some (exd d [(attr, .ref q)]) → H' q = some (.tup xs) → (∀ b o, H b = some o → b ≠ a → H' b = some o) → Q .non H'
/-- what an __init__ that keeps its argument as it is promises -/
def spIniV (C : Addr) (attr : Str) : Sp := fun vs H Q _ => ∃ (a : Addr) (v : V), vs = [.ref a, v] ∧ H a = some (exo a C none) ∧
  ∀ (d : Addr) (H' : Hp), H d = none → d ≠ a → H' a = some (exo a C (some d)) → H' d = some (exd d [(attr, v)]) → (∀ b o, H b = some o → b ≠ a → H' b = some o) → Q .non H'
theorem raises_of {C : Addr} (cc : ExcC X.K C) (ty : PySem.W.typeIn X.K (.ref C) = some (.type "type")) : Raises X (.ref C) := raises_own cc.hs ty
/-- raise C(e), C keeping a tuple of it -/
def rRaT (C : Addr) (attr : Str) (vs : List V) (H1 : Hp) (Q : XK) : Prop := ∃ (p : Addr) (xs : List V), vs = [.ref p] ∧ (H1 p = some (.lst xs) ∨ H1 p = some (.tup xs)) ∧ xs.length ≤ 1000 ∧
  ∀ (d q : Addr) (H2 : Hp), H1 d = none → Same H1 H2 → H2 d = some (.xd [(attr, .ref q)]) → H2 q = some (.tup xs) → Q (.ref C) (some d) H2
def rRaV (C : Addr) (attr : Str) (vs : List V) (H1 : Hp) (Q : XK) : Prop := ∃ (v : V), vs = [v] ∧
  ∀ (d : Addr) (H2 : Hp), H1 d = none → Same H1 H2 → H2 d = some (.xd [(attr, v)]) → Q (.ref C) (some d) H2
theorem mak_T {C : Addr} {attr : Str} {vs : List V} {H1 : Hp} {Q : XK} (h : rRaT C attr vs H1 Q) : Mak C (spIniT C attr) vs H1 Q := by
  obtain ⟨q0, xs, rfl, at_, few, k⟩ := h
  refine ⟨(by show 1 ≤ 1000; decide), fun a na => ?_⟩
  have kp : ∀ b o, H1 b = some o → (upd H1 a (exo a C none)) b = some o := fun b o z => by rw [upd_ne (ne_of_none z na)]; exact z
  refine ⟨a, q0, xs, rfl, upd_same, at_.imp (kp _ _) (kp _ _), few, fun d q H2 nd da ea ed eq keep => ⟨rfl, d, _, ea, ed, ?_, ?_⟩⟩
  · rw [upd_ne da] at nd
    exact nd
  · have nd1 : H1 d = none := by
      rw [upd_ne da] at nd
      exact nd
    have qa : q ≠ a := ext_ne ea eq fun _ => nofun
    have qd : q ≠ d := ext_ne ed eq fun _ => nofun
    refine k d q _ nd1 (fun b o z => ?_) upd_same (by rw [upd_ne qd, del_ne qa]; exact eq)
    rw [upd_ne (ne_of_none z nd1), del_ne (ne_of_none z na)]
    exact keep b o (kp b o z) (ne_of_none z na)
theorem mak_V {C : Addr} {attr : Str} {vs : List V} {H1 : Hp} {Q : XK} (h : rRaV C attr vs H1 Q) : Mak C (spIniV C attr) vs H1 Q := by
  obtain ⟨v, rfl, k⟩ := h
  refine ⟨(by show 1 ≤ 1000; decide), fun a na => ?_⟩
  have kp : ∀ b o, H1 b = some o → (upd H1 a (exo a C none)) b = some o := fun b o z => by rw [upd_ne (ne_of_none z na)]; exact z
  refine ⟨a, v, rfl, upd_same, fun d H2 nd da ea ed keep => ⟨rfl, d, _, ea, ed, ?_, ?_⟩⟩
  · rw [upd_ne da] at nd
    exact nd
  · have nd1 : H1 d = none := by
      rw [upd_ne da] at nd
      exact nd
    refine k d _ nd1 (fun b o z => ?_) upd_same
    rw [upd_ne (ne_of_none z nd1), del_ne (ne_of_none z na)]
    exact keep b o (kp b o z) (ne_of_none z na)
def tRa (R : List V → Hp → XK → Prop) (W : WX) (ta : TA) : TS := fun _ σ H => ta σ H fun vs H1 => R vs H1 fun cls d H' => W cls d σ H'
theorem ps_raO {W : WX} {R : List V → Hp → XK → Prop} {sp : Sp} {ps : List Str} {x qual attr : Str} {st : Stmt} {newId initId : String} {C : Addr} (F : ExcBaseFacts B newId initId bmB) (O : Own X.K X.mg x qual attr st bmB newId C) (hc : X.calm = true) (tk : Takes X W)
    (ini : ∀ (f : Addr) (fd : FuncData), Fun X.K "__init__" qual st f fd → FnOk X.prog X.w X.K X.mg X.base CX0 1 f fd ps sp) (bd : ∀ (f : Addr) (fd : FuncData), Fun X.K "__init__" qual st f fd → Binds X.K fd ps [])
    {j : Nat} (hr : Room j X.A) (hk : 2 ≤ j) (hg : Gl X x) (ha : PA X (e :: es) ta) (hR : ∀ vs H1 Q, R vs H1 Q → Mak C sp vs H1 Q) (hdb : (x == ("__debug__" : Str)) = false := by decide) (he : starEach (e :: es) X.env = (false, eval e X.env) :: starEach es X.env := by rfl)
    (hpl : (backTo pos (starEach es X.env)).any (·.1) = false := by rfl) : PS X (.Raise (some (.Call (.Name x p) (e :: es) [] pos)) none pos') (tRa R W ta) := by
  obtain ⟨f, fd, fnd, tf, Fn⟩ := O.ex
  exact ps_raise (pos := pos') hc tk (pmk_xm (p := p) (pos := pos) F O.M (raises_of O.M.cc O.ty) O.i fnd tf (ini f fd Fn) (hr.mono hk) (bd f fd Fn) hg O.m ha hR hdb he hpl)
/-- raise C(), C without an own __init__ -/
theorem ps_raE {W : WX} {x : Str} {C : Addr} (O : Easy X.K X.mg x C) (hc : X.calm = true) (tk : Takes X W) (hg : Gl X x) (hdb : (x == ("__debug__" : Str)) = false := by decide) :
    PS X (.Raise (some (.Call (.Name x p) [] [] pos)) none pos') (fun _ σ H => W (.ref C) none σ H) :=
  ps_raise (pos := pos') hc tk (pmk_own0 (p := p) (pos := pos) PySem.F.excBase_ValueError O.q O.m O.kp (raises_of O.cc O.ty) hg hdb)
end
/-! ### makers that may raise -/
structure MkrX (P : Program) (w : World) (K : PySem.W.Frag) (mg : Str → Option Value) (base : Heap) (k : Nat) (C : Addr) (x : Str) (sp : Sp) : Prop where
  ex : ∃ (f : Addr) (fd : FuncData) (ps : List Str), L2.Mk K C f ∧ mg x = some (.ref C) ∧ FnOk P w K mg base (L2.CX P w) k f fd ps sp ∧ Binds K fd ps []
theorem MkAt.mkrx {P : Program} {w : World} {K : PySem.W.Frag} {mg : Str → Option Value} {base : Heap} {k : Nat} {C : Addr} {x qual : Str} {st : Stmt} {ps : List Str} {sp : Sp} (A : MkAt K mg x C qual st)
    (ok : ∀ (f : Addr) (fd : FuncData), Fun K "__init__" qual st f fd → FnOk P w K mg base (L2.CX P w) k f fd ps sp) (bd : ∀ (f : Addr) (fd : FuncData), Fun K "__init__" qual st f fd → Binds K fd ps []) : MkrX P w K mg base k C x sp := by
  obtain ⟨f, fd, h, n, F⟩ := A.ex
  exact ⟨f, fd, ps, h, n, ok f fd F, bd f fd F⟩
section
variable {X : Cx} {k j : Nat} {C : Addr} {x : Str} {sp : Sp} {p pos : Pos} {e : Expr} {es : List Expr} {t : TA} {W : WX} {E : XK}
theorem pe_mkrX (M : MkrX X.prog X.w X.K X.mg X.base k C x sp) (hr : Room j X.A) (hk : k + 1 ≤ j) (hg : Gl X x) (tk : Takes X W) (hW : ∀ cls d σ H, E cls d H → W cls d σ H) (ha : PA X (e :: es) t)
    (hdb : (x == ("__debug__" : Str)) = false := by decide) (he : starEach (e :: es) X.env = (false, eval e X.env) :: starEach es X.env := by rfl) (hpl : (backTo pos (starEach es X.env)).any (·.1) = false := by rfl) :
    PE X (.Call (.Name x p) (e :: es) [] pos) (tMake C sp [] E t) := by
  obtain ⟨f, fd, ps, mk, hm, F, b⟩ := M.ex
  exact pe_make mk F (hr.mono hk) hg hm b .nil (passes_call tk hW) ha hdb he hpl
end
end Rt
namespace Rt
open PySem PySem.Spec L2 LamX
open PyProof.Rows hiding St
/-! ### defs that hold lambdas -/
/-- the code object of the def at f is the one at c -/
def CodeAt (K : PySem.W.Frag) (f c : Addr) : Prop := ∃ (o : Obj) (fd : FuncData), K.lookup f = some o ∧ o.data = .func fd ∧ fd.code = .ref c
theorem LamT.code {K : PySem.W.Frag} {mg : Str → Option Value} {x : Str} {c P f : Addr} (L : LamT K mg x c P) (m : mg x = some (.ref f)) : CodeAt K f c := by
  obtain ⟨f', o, oc, fd, vs, g1, g2, g3, g4, _⟩ := L.ex
  cases m.symm.trans g1
  exact ⟨o, fd, g2, g3, g4⟩
/-- where the code object of a def and its table stand -/
def tabOf (K : PySem.W.Frag) (x : Str) : Option (Addr × Addr) := match PySem.W.nsIn K mainGlobals x with
  | some (some (.ref f)) => (match K.lookup f with
    | some o => (match o.data with
      | .func fd => (match fd.code with
        | .ref c => (match K.lookup c with
          | some oc => (match oc.data with
            | .fields vs => (match (vs[11]? : Option Value) with
              | some (.ref P) => (match K.lookup P with
                | none => some (c, P)
                | some _ => none)
              | _ => none)
            | _ => none)
          | none => none)
        | _ => none)
      | _ => none)
    | none => none)
  | _ => none
theorem tabOf_lam {K : PySem.W.Frag} {mg : Str → Option Value} {h : Heap} {x : Str} {c P : Addr} (X : K.In h) (G : h.Ns mainGlobals mg) (e : tabOf K x = some (c, P)) : LamT K mg x c P := by
  unfold tabOf at e
  split at e
  · rename_i f h1
    split at e
    · rename_i o h2
      split at e
      · rename_i fd h3
        split at e
        · rename_i c' h4
          split at e
          · rename_i oc h5
            split at e
            · rename_i vs h6
              split at e
              · rename_i P' h7
                split at e
                · rename_i h8
                  cases e
                  exact ⟨⟨f, o, oc, fd, vs, PySem.W.mg_of X G h1, h2, h3, h4, h5, h6, h7⟩, h8⟩
                · cases e
              · cases e
            · cases e
          · cases e
        · cases e
      · cases e
    · cases e
  · cases e
/-- two defs hold lambdas, by unlike tables -/
def tabs2 (K : PySem.W.Frag) (x y : Str) : Bool := match tabOf K x, tabOf K y with
  | some p, some q => p.2 != q.2
  | _, _ => false
theorem tabs2_of {K : PySem.W.Frag} {mg : Str → Option Value} {h : Heap} {x y : Str} (X : K.In h) (G : h.Ns mainGlobals mg) (e : tabs2 K x y = true) : ∃ c1 P1 c2 P2, LamT K mg x c1 P1 ∧ LamT K mg y c2 P2 ∧ P1 ≠ P2 := by
  unfold tabs2 at e
  split at e
  · rename_i p q h1 h2
    exact ⟨p.1, p.2, q.1, q.2, tabOf_lam X G h1, tabOf_lam X G h2, fun z => by rw [z] at e; simp at e⟩
  · cases e
def tabs1 (K : PySem.W.Frag) (x : Str) : Bool := (tabOf K x).isSome
theorem tabs1_of {K : PySem.W.Frag} {mg : Str → Option Value} {h : Heap} {x : Str} (X : K.In h) (G : h.Ns mainGlobals mg) (e : tabs1 K x = true) : ∃ c1 P1, LamT K mg x c1 P1 := by
  obtain ⟨p, hp⟩ := Option.isSome_iff_exists.mp e
  exact ⟨p.1, p.2, tabOf_lam X G hp⟩
section
variable {P : Program} {w : World} {K : PySem.W.Frag} {mg : Str → Option Value} {base : Heap}
theorem okGc {x qual : Str} {st : Stmt} {f c : Addr} {fd : FuncData} {N ps : List Str} {k : Nat} {sp : Sp} (F : Fun K x qual st f fd) (ca : CodeAt K f c) (S : FnScope N ps (defScope st))
    (many : ∀ vs H Q E, sp vs H Q E → vs.length = ps.length)
    (body : ∀ (A : Around) (outer : List Env) (s : Shared) (H : Hp) (vs : List V) (Q : VK) (E : XK), A.guards = some [] →
      Room k (A.deeper (envOfC qual (defScope st) s.heap.objs.size f (.ref c))) → sp vs H Q E →
      ∃ t, PSs (cxOf CX0 P w K mg base N qual (defScope st) f (.ref c) A outer s H E).nox (defBody st) t ∧ t { nx := fun _ H' => Q .non H', rt := Q } (start N vs) H) :
    FnG P w K mg base (k + 1) f fd ps sp := by
  obtain ⟨oc, od, kV, doc, pm, an, cdv, ct, osl, rfl, lk, hcd⟩ := F.ex
  obtain ⟨o2, fd2, l2, d2, c2⟩ := ca
  obtain rfl : cdv = Value.ref c := by
    cases lk.symm.trans l2
    cases d2
    exact c2
  refine ⟨many, ?_⟩
  intro A hg room outer s H args us vs Q E e0 bt rv want
  have size := many vs H Q E want
  have kin : K.In s.heap := e0.mod.kin.keeps fun b o e => (e0.bs b o e).1
  have noLim : s.heap.NoLimit := e0.mod.nolimit.keeps fun b o e => (e0.bs b o e).1
  refine codeAny_call_function room.depth (kin _ _ lk) rfl S.co S.gen rfl (PySem.W.codeRec_of kin hcd) (bt _ _ _ _ ?_)
  refine wpAny_newFunctionEnv_cells S.kind ?_ ?_
  · rintro ⟨nm, val⟩ mem
    exact (S.par nm (List.of_mem_zip mem).1).imp id fun c => ⟨c, PySem.W.cellsFrom_some _ _ _ (.inl c)⟩
  · rintro env rfl s1 entry
    refine ⟨noLim.keeps entry.toInCall.keep, codeAny_func ?_⟩
    obtain ⟨t, ht, now⟩ := body A outer s H vs Q E hg (room.deeper _) want
    have J := inv_start (CX := CX0) (E := E) S room.hd e0 size rv entry
    refine wpAny_mono (ht.nox.run [] s1 (start N vs) H _ J now) (fun way s2 out => ?_) fun _ _ z => z
    cases way with
    | ret u =>
      obtain ⟨v, σ2, H2, J2, ru, q2⟩ := out
      exact ⟨v, H2, J2.os, J2.bare, J2.base, J2.hok, ru, q2⟩
    | next =>
      obtain ⟨σ2, H2, J2, q2⟩ := out
      exact ⟨V.non, H2, J2.os, J2.bare, J2.base, J2.hok, rfl, q2⟩
    | brk => exact out.elim fun _ z => z.elim fun _ y => y.2.elim
    | cont => exact out.elim fun _ z => z.elim fun _ y => y.2.elim
end
section
variable {X : Cx}
/-- x(lambda: body), x a def of the law's with the one parameter a -/
theorem pe_tells {T : List (Addr × Str)} {TT : (XK → Hp → VK → Prop) → Hp → VK → Prop} {x a : Str} {st : Stmt} {Ng : List Str} {c Pt : Addr} {k j : Nat} {params : Arguments} {body : Expr} {scope : Scope} {t : XK → TE} {p lpos pos : Pos}
    (A : At X.K X.mg x st) (bd : ∀ (f : Addr) (fd : FuncData), Fun X.K x x st f fd → Binds X.K fd [a] []) (Sg : FnScope Ng [a] (defScope st)) (hN : Ng[0]? = some a) (hva : Vis (defScope st) a)
    (hG : ∀ (g : Addr) (cdg : Value), GivesTo X Ng x (defScope st) g cdg (defBody st) a (X.env.qual ++ "<lambda>") TT) (hg : Gl X x) (TB : TabB X.base X.mg c Pt) (hcode : X.env.code = .ref c)
    (hmT : (Pt, X.env.qual ++ "<lambda>") ∈ T) (hu : ∀ p ∈ T, p.1 = Pt → p.2 = X.env.qual ++ "<lambda>") (hr : Room j X.A) (hk : k + 2 ≤ j) (L : LamS X.env.scope scope)
    (hbody : ∀ (A : Around) (outer : List Env) (s : Shared) (H : Hp) (E : XK) (f c' : Addr), Room k (A.deeper (lamEnv X scope s.heap.objs.size f c')) → PE (lamCx X A outer s H E scope f c') body (t E))
    (hdef : defaultsOf params X.env = ([], []) := by rfl)
    (hbind : ∀ (q : Str) (cl : List (Str × Addr)) (pm cv ctv : Value), bindArgs (PySem.W.kla_fn "<lambda>" q params body scope cl pm cv ctv) ⟨[], []⟩ = pure [] := by exact fun _ _ _ _ _ => rfl)
    (hdb : (x == ("__debug__" : Str)) = false := by decide) (hd : (a == ("__debug__" : Str)) = false := by decide) (hcd : (a == ("__classdict__" : Str)) = false := by decide) :
    PE X (.Call (.Name x p) [.Lambda params body scope lpos] [] pos) (tLam T TT t) := by
  obtain ⟨g, fd, F, m⟩ := A.ex
  have b := bd g fd F
  have kp := F.kp
  obtain ⟨oc, od, kV, doc, pm, an, cdv, ct, osl, rfl, lk, hc⟩ := F.ex
  exact pe_lamcall hg m kp lk hc b Sg hN hva (hG g cdv) TB hcode hmT hu (hr.mono hk) L hdef hbind hbody hdb hd hcd
end
end Rt
namespace GQ
open PySem PySem.Spec PySem.SeqAt
open AutoSeq1 (wpAny_loadPart')
open MeetsSeq MeetsSeq2 MeetsSeq3 SeqRoads2
section
variable {prog : Program} {w : World} {A : Around} {R : Result → Shared → Prop}
/-- != of two lists whose items are found to be equal one by one -/
theorem ne_loopG (l b : Addr) (N : Nat) (I : Nat → Shared → Prop) (look : ListI prog w A (fun e s' => R (.error e) s') l b N I) (done : ∀ s, I N s → R (.ok (.ret (.bool false))) s) :
    ∀ (k i : Nat), N - i = k → i ≤ N → ∀ s, I i s → wpAny (model prog w) A.in1 (Builtin.«list.__eq__.loop» ⟨[.ref l, .ref b, rawInt i, rawInt 3], []⟩) (FinOf prog w A R) (fun e s' => R (.error e) s') s := by
  intro k
  induction k with
  | zero =>
    intro i ek le s now
    obtain ⟨xs, ys, n1, n2, atL, atB, z1, z2, _⟩ := look _ _ now
    obtain rfl : i = N := by omega
    have ends := done s now
    obtain ⟨hp, g, d, tk, os⟩ := s
    have no1 : xs[((i : Nat) : Int).toNat]? = none := by simp; omega
    have no2 : ys[((i : Nat) : Int).toNat]? = none := by simp; omega
    wp_walk using wpAny_loadPart' atL, wpAny_loadPart' atB
    rw [no1, no2]
    wp_walk using wpAny_loadPart' atL, wpAny_loadPart' atB
    show R (.ok (.ret (.bool (xs.size != ys.size)))) _
    rw [z1, z2]
    simpa using ends
  | succ k ih =>
    intro i ek le s now
    obtain ⟨xs, ys, n1, n2, atL, atB, z1, z2, step⟩ := look _ _ now
    have lt1 : i < xs.size := by omega
    have lt2 : i < ys.size := by omega
    have this_ := step lt1 lt2
    obtain ⟨hp, g, d, tk, os⟩ := s
    have is1 : xs[((i : Nat) : Int).toNat]? = some xs[i] := by simp [lt1]
    have is2 : ys[((i : Nat) : Int).toNat]? = some ys[i] := by simp [lt2]
    have next : ((i : Int) + 1) = ((i + 1 : Nat) : Int) := by omega
    wp_walk using wpAny_loadPart' atL, wpAny_loadPart' atB
    rw [is1, is2]
    refine wpAny_bind (wpAny_mono this_ ?_ fun _ _ z => z)
    rintro r s2 ⟨rfl, now2⟩
    have more := ih (i + 1) (by omega) (by omega) s2 now2
    obtain ⟨hp2, g2, d2, tk2, os2⟩ := s2
    wp_walk
    rw [next]
    refine ⟨plainId_quiet plain_eq_loop _, codeAny_builtin entry_eq_loop ?_⟩
    rw [Around.under_plainId plain_eq_loop _]
    exact more
theorem list_neG (l b : Addr) (N : Nat) (I : Nat → Shared → Prop) (look : ListI prog w A (fun e s' => R (.error e) s') l b N I) (done : ∀ s, I N s → R (.ok (.ret (.bool false))) s) {s : Shared} (now : I 0 s) :
    wpAny (model prog w) A.in1 (Builtin.«list.__ne__» ⟨[.ref l, .ref b], []⟩) (FinOf prog w A R) (fun e s' => R (.error e) s') s := by
  obtain ⟨xs, ys, n1, n2, atL, atB, z1, z2, _⟩ := look _ _ now
  have more := ne_loopG (A := A) (R := R) l b N I look done _ 0 rfl (Nat.zero_le _) s now
  obtain ⟨hp, g, d, tk, os⟩ := s
  have isL := AutoSeq1.sub_list_list
  have alike : ¬ (xs.size != ys.size) = true := by simp [z1, z2]
  wp_walk using wpAny_loadPart' atL, wpAny_loadPart' atB
  refine ⟨plainId_quiet plain_eq_loop _, codeAny_builtin entry_eq_loop ?_⟩
  rw [Around.under_plainId plain_eq_loop _]
  exact more
end
section
variable {prog : Program} {w : World} {A : Around} {E : Value → Shared → Prop} {s : Shared}
theorem rc_neG {l b : Addr} {N : Nat} {Q : Value → Shared → Prop} (hu : A.units < cLine) (I : Nat → Shared → Prop) (look : ListI prog w A E l b N I) (done : ∀ s, I N s → Q (.bool false) s) (now : I 0 s) :
    wpAny (model prog w) A (richCompare .NotEq (.ref l) (.ref b)) Q E s := by
  obtain ⟨xs, ys, n1, n2, atL, atB, _, _, _⟩ := look _ _ now
  refine wpAny_richCompare_same_room (op := .NotEq) ⟨_, atL, rfl⟩ ⟨_, atB, rfl⟩ F.slot_list_ne ?_ hu
  refine call_here F.slot_list_ne ⟨_, atL, rfl⟩ F.entry_list_ne (F.args_list_ne_2 _ _) ?_
  exact list_neG (R := wants (fun v s' => v ≠ .notImplemented ∧ Q v s') E) l b N I look (fun s' q => ⟨nofun, done s' q⟩) now
end
end GQ
namespace Rt
open PySem PySem.Spec L2
open PyProof.Rows hiding St
section
variable {X : Cx} {n : Nat} {D : Eqv}
/-- xs != ys, both of items that are equal one by one -/
def rNeG (D : Eqv) : R2 := fun x y H Q => D x y H ∧ ∀ H', Ext H H' → Q (.bl false) H'
theorem op_neG (mono : Mon D) (h : EqG X n D) (room : Room (n + 1) X.A) : OpR X (compareOp .NotEq) (rNeG (DList D)) := by
  rintro pins s σ H x y v u Q I rx ry ⟨⟨a, b, xs, ys, rfl, rfl, ha, hb, p⟩, k⟩
  cases rx
  cases ry
  show wpAny (model X.prog X.w) X.A (richCompare .NotEq _ _) (EP X pins σ Q) X.xe s
  have sb : Sub X (n + 1) X.A := ⟨room, rfl⟩
  refine GQ.rc_neG (N := xs.length) room.units0 (fun _ s' => LoopI X pins σ H s') ?_ ?_ ⟨H, I, Ext.rfl'⟩
  · rintro i s' ⟨H1, I1, e1⟩
    obtain ⟨_, its, m1, r1, at1⟩ := I1.hok a _ (e1 _ _ ha)
    obtain ⟨_, jts, m2, r2, at2⟩ := I1.hok b _ (e1 _ _ hb)
    refine ⟨its.toArray, jts.toArray, m1, m2, at1, at2, ?_, ?_, fun h1 h2 => turnG mono h sb p r1 r2 i h1 h2 s' ⟨H1, I1, e1⟩⟩
    · rw [List.size_toArray, ← r1.length]
    · rw [List.size_toArray, ← r2.length, ← p.1]
  · rintro s' ⟨H1, I1, e1⟩
    exact ⟨.bl false, H1, I1, rfl, k H1 e1⟩
end
end Rt
namespace PySem
section
variable {prog : Program} {w : World} {A : Around} {E : Value → Shared → Prop} {s : Shared}
set_option maxHeartbeats 1000000 in
theorem meets_enumerate_newT {v : Value} {o : Obj} {H : Heap → Prop} (B : Begins v o H) :
    Meets (Builtin.«enumerate.__new__» ⟨[.type "enumerate", v], []⟩) (fun _ R s => H s.heap ∧
      R (.ok (.ret (.ref (s.heap.push o).objs.size))) { s with heap := (s.heap.push o).push { cls := .type "enumerate", data := .fields #[.none, .bool false, .ref s.heap.objs.size, rawInt 0, .none, .none] } }) :=
  .of_wp fun prog w A R s h => by
    obtain ⟨hp, g, d, tk, os⟩ := s; obtain ⟨h1, h⟩ := h
    have hsub := sub_enumerate
    have q1 : ∀ {A' : Around} {E : Value → Shared → Prop} {Q : Value → Shared → Prop}, Q (.ref hp.objs.size) ⟨hp.push o, g, d, tk, os⟩ → wpAny (model prog w) A' (pyIter v) Q E ⟨hp, g, d, tk, os⟩ :=
      fun q => B.iter prog w _ _ ⟨hp, g, d, tk, os⟩ _ h1 q
    wp_walk using q1
    refine wpAny_stack_any fun st => wpAny_pure ?_
    split
    · rename_i c _ _ _ _ _
      cases (c == Value.type "enumerate")
      · wp_walk using q1
        exact ⟨_, rfl, h⟩
      · wp_walk using q1
        exact ⟨_, rfl, h⟩
    · wp_walk using q1
      exact ⟨_, rfl, h⟩
theorem enum_one {v : Value} {o : Obj} {H : Heap → Prop} {Q : Value → Shared → Prop} (B : Begins v o H) (h1 : H s.heap)
    (h : ∀ h', IsEnum h' (s.heap.objs.size + 1) s.heap.objs.size 0 .none → h'.get? s.heap.objs.size = some o → h'.objs.size = s.heap.objs.size + 2 →
      (∀ b o, s.heap.get? b = some o → h'.get? b = some o) → Q (.ref (s.heap.objs.size + 1)) { s with heap := h' }) :
    wpAny (model prog w) A (call (.type "enumerate") [v]) Q E s := by
  refine callType_new F.called_enumerate (by decide) (F.typeCall_enumerate_1 _) (F.newCall_enumerate_1 _) (fun obj => F.args_object_init_2 obj _) F.entry_enumerate_new
    (meets_enumerate_newT B) ⟨h1, ?_⟩
  have hz : (s.heap.push o).objs.size = s.heap.objs.size + 1 := Heap.size_push ..
  show _ ∧ _
  rw [hz]
  have he : IsEnum ((s.heap.push o).push { cls := .type "enumerate", data := .fields #[.none, .bool false, .ref s.heap.objs.size, rawInt 0, .none, .none] }) (s.heap.objs.size + 1) s.heap.objs.size 0 .none := by
    have := Heap.get?_push_size (s.heap.push o) (o := { cls := .type "enumerate", data := .fields #[.none, .bool false, .ref s.heap.objs.size, rawInt 0, .none, .none] }) rfl
    rw [hz] at this; exact this
  refine ⟨⟨_, he, rfl⟩, h _ he (Heap.get?_push_of_some _ (Heap.get?_push_size _ B.free)) (by rw [Heap.size_push, hz]) fun b o x => Heap.get?_push_of_some _ (Heap.get?_push_of_some _ x)⟩
end
end PySem
namespace Rt
open PySem PySem.Spec L2
open PyProof.Rows hiding St
/-! ### enumerate over what is a list or a tuple -/
def IeT (K : PySem.W.Frag) (a : Addr) : It :=
  ⟨fun i H => ∃ (xs : List V) (x : V), SqT K H a xs ∧ xs[i]? = some x, fun i H v H' => ∃ T x, v = .ref T ∧ H T = none ∧ H' = upd H T (.tup [.int (i : Nat), x]) ∧ ∀ xs, SqT K H a xs → xs[i]? = some x, fun i H => ∃ xs : List V, SqT K H a xs ∧ xs.length ≤ i⟩
theorem turn_enumT {P : Program} {w : World} {K : PySem.W.Frag} {elts : List Expr} {kk : Nat} {tpos : Pos} (a e it : Addr) :
    Turn P w K (.Tuple elts kk tpos) (IeT K a) [e, it] e (fun i h => (∃ old, IsEnum h e it ((i : Nat) : Int) old) ∧ h.IsTupleIter it a i ∧ e ≠ it) where
  mem := by simp
  obj := fun i h st b hb => by
    obtain ⟨⟨old, he⟩, ⟨o, ho, hc, hd⟩, _⟩ := st
    have e' : b = e ∨ b = it := by simpa using hb
    rcases e' with z | z
    · rw [z]; exact ⟨_, he, fun v q => nomatch q⟩
    · rw [z]; exact ⟨o, ho, fun v q => by rw [hd] at q; cases q⟩
  keep := fun i h h' st k => let ⟨⟨old, he⟩, hi, hne⟩ := st; ⟨⟨old, k e (by simp) _ he⟩, hi.at fun o q => k it (by simp) o q, hne⟩
  item := by
    intro X hP hw hK hc i pins s σ H E I hf st hg
    subst hP hw hK
    obtain ⟨⟨old, he⟩, hit, hne⟩ := st
    obtain ⟨xs, x, hq, hx⟩ := hg
    obtain ⟨its, rv, p, hz⟩ := I.tuple hq
    obtain ⟨u, hu, ru⟩ := rv.get hx
    have pT : s.heap.IsTuple a its.toArray := p
    have hel : e < s.heap.objs.size := Heap.lt_size he
    have hil : it < s.heap.objs.size := by obtain ⟨_, q, _⟩ := hit; exact Heap.lt_size q
    have ea : e ≠ a := fun z => by
      obtain ⟨o, ho, hc, _⟩ := pT
      rw [z] at he
      rw [he] at ho
      cases ho
      simp at hc
    have ta : a ≠ it := fun z => by
      obtain ⟨o, ho, hc, _⟩ := pT
      obtain ⟨o', ho', hc', _⟩ := hit
      rw [z, ho'] at ho
      cases ho
      rw [hc'] at hc
      simp at hc
    refine wpAny_pyNext_enum_itemD (Draws.tuple (A := X.A.in1) (show X.A.in1.handled = none from I.ok.hd hc) it a ta its.toArray) he ⟨hit, pT⟩ (i := i) ?_ hne (by simp [hne, ea]) fun u2 h' tk hP2 ho st2 hT hsz hk => ?_
    · have := (List.getElem?_eq_some_iff.mp hu).1
      simpa using this
    have eu : u2 = u := by
      have q : its.toArray[i]? = some u2 := hP2
      rw [List.getElem?_toArray, hu] at q
      exact (Option.some.inj q).symm
    subst eu
    obtain ⟨hit', _⟩ := st2
    refine ⟨_, rfl, wpAny_letOwnedTupleGo_enum (s := { s with heap := h', toks := tk + 1 }) ho fun h'' he' sb => ?_⟩
    have hT2 : h''.get? s.heap.objs.size = some { cls := .type "tuple", data := .seq #[.int i tk, u2] } := (sb.2 _ (Nat.ne_of_gt hel)).trans hT
    have new : ObjOk X.prog X.w (upd H s.heap.objs.size (.tup [.int (i : Nat), x])) h'' s.heap.objs.size (.tup [.int (i : Nat), x]) :=
      ⟨by show 2 ≤ sizeLine; decide, [.int i tk, u2], .cons ⟨_, rfl⟩ (.cons ru .nil), ⟨_, hT2, rfl, _, rfl⟩⟩
    have I1 : Inv X pins σ (upd H s.heap.objs.size (.tup [.int (i : Nat), x])) { s with heap := h'', toks := tk + 1 } :=
      I.turnedNew (ch := [e, it]) (fun b ob hb q => (sb.2 b (fun z => hb (by simp [z]))).trans (hk b ob (fun z => hb (by simp [z])) (fun z => hb (by simp [z])) q)) hf (Nat.le_refl _) new
    refine ⟨.ref s.heap.objs.size, _, I1, rfl, ⟨_, x, rfl, I.hok.fresh (Nat.le_refl _), rfl, fun ys hy => by rw [I.tuple_inj hy hq]; exact hx⟩, ⟨⟨u2, ?_⟩, hit'.at fun o q => (sb.2 it (Ne.symm hne)).trans q, hne⟩, fun b hb => ?_⟩
    · have e1 : ((i + 1 : Nat) : Int) = (i : Int) + 1 := by omega
      rw [e1]; exact he'
    · have hb' : b < s.heap.objs.size := by
        have e' : b = e ∨ b = it := by simpa using hb
        rcases e' with z | z
        · rw [z]; exact hel
        · rw [z]; exact hil
      rw [upd_ne (Nat.ne_of_lt hb')]
      exact (hf b hb).1
  done := by
    intro X hP hw hK hc i pins s σ H E I hf st hg
    subst hP hw hK
    obtain ⟨⟨old, he⟩, hit, hne⟩ := st
    obtain ⟨xs, hq, hx⟩ := hg
    obtain ⟨its, rv, p, hz⟩ := I.tuple hq
    have hl := rv.length
    have pT : s.heap.IsTuple a its.toArray := p
    obtain ⟨f0, f1, f2, f3, f4, f5⟩ := hf it (by simp)
    have ta : a ≠ it := fun z => by
      obtain ⟨o, ho, hc, _⟩ := pT
      obtain ⟨o', ho', hc', _⟩ := hit
      rw [z, ho'] at ho
      cases ho
      rw [hc'] at hc
      simp at hc
    have hh := I.ok.hd hc
    have hT : s.TypeIs (.ref e) "enumerate" := ⟨_, he, rfl⟩
    unfold pyNext
    refine wpAny_bind (wpAny_attempt (wpAny_callSpecial?_slot (name := Str.ofString "__next__") hT F.slot_enumerate_next
      (wpAny_call_entry F.slot_enumerate_next hT F.entry_enumerate_next ?_ (F.args_enumerate_next_1 _))))
    show wpAny _ _ (field (.ref e) 2 >>= _) _ _ _
    refine wpAny_bind (wpAny_field he rfl (x := .ref it) rfl ?_)
    refine wpAny_bind (wpAny_nextOf_tuple_end hh hit pT (by simp; omega) fun h' x he' hx' => ?_)
    obtain ⟨o, ho, hc⟩ := hx'
    refine wpAny_bind (wpAny_isInstance (T := "StopIteration") (b := true) ⟨o, ho, hc⟩ isSubtype_stop ?_)
    exact wpAny_pure ⟨rfl, I.turned (t' := s.toks) (fun b o hb q => he' b o hb q) f0 f1 f3 f4 f5⟩
  self := fun A i s Q E st h => let ⟨⟨_, he⟩, _⟩ := st; wpAny_pyIter_enum he h
def enumR (K : PySem.W.Frag) (R : It → Hp → Prop) (a : Addr) (H : Hp) : Prop := ((∃ xs, SqL K H a xs) ∧ R (Ite K a) H) ∨ ((∃ xs, SqT K H a xs) ∧ R (IeT K a) H)
def iEnumS (K : PySem.W.Frag) (ta : TA) : TI := fun σ H R => ta σ H fun vs H1 => ∃ a, vs = [.ref a] ∧ enumR K R a H1
theorem pi_enumS {X : Cx} {e : Expr} {ta : TA} {p pos tpos : Pos} {elts : List Expr} {kk : Nat} (hg : Gl X "enumerate") (hm : X.mg "enumerate" = none) (ha : PA X [e] ta) (hs : starEach [e] X.env = [(false, eval e X.env)] := by rfl) :
    PI X (.Tuple elts kk tpos) (.Call (.Name "enumerate" p) [e] [] pos) (iEnumS X.K ta) := by
  refine ⟨fun pins s σ H R I h => ?_⟩
  refine Call_ (ld_blt I hg hm boot_enumerate (PyProof.Rows.callWith_type1 (thn (ha.run pos pins s σ H _ I h) fun us s1 ⟨vs, H1, I1, r1, q1⟩ => ?_) hs rfl))
  obtain ⟨a, ex, q1⟩ := q1
  subst ex
  cases r1 with
  | cons r rr =>
    cases rr
    cases r
    rcases q1 with ⟨⟨xs, hq⟩, q⟩ | ⟨⟨xs, hq⟩, q⟩
    · obtain ⟨its, rv, p', hz⟩ := I1.list hq
      refine call_enumerate_list p'.isList fun h' he hit hsz hk => wpAny_pyIter_enum he ?_
      have I2 : Inv X pins σ H1 { s1 with heap := h' } := I1.kept (t' := s1.toks) hk
      refine ⟨s1.heap.objs.size + 1, [s1.heap.objs.size + 1, s1.heap.objs.size], _, _, H1, rfl, I2, turn_enum a (s1.heap.objs.size + 1) s1.heap.objs.size, ⟨⟨.none, he⟩, hit, Nat.succ_ne_self _⟩, fun b hb => ?_, q⟩
      have e' : b = s1.heap.objs.size + 1 ∨ b = s1.heap.objs.size := by simpa using hb
      have hle : s1.heap.objs.size ≤ b := by
        rcases e' with z | z
        · rw [z]; exact Nat.le_add_right _ _
        · rw [z]; exact Nat.le_refl _
      exact I1.fpOk hle (I1.hok.fresh hle)
    · obtain ⟨its, rv, p', hz⟩ := I1.tuple hq
      refine enum_one (begins_tuple a its.toArray) (show s1.heap.IsTuple a its.toArray from p') fun h' he hit hsz hk => wpAny_pyIter_enum he ?_
      have I2 : Inv X pins σ H1 { s1 with heap := h' } := I1.kept (t' := s1.toks) hk
      refine ⟨s1.heap.objs.size + 1, [s1.heap.objs.size + 1, s1.heap.objs.size], _, _, H1, rfl, I2, turn_enumT a (s1.heap.objs.size + 1) s1.heap.objs.size, ⟨⟨.none, he⟩, ⟨_, hit, rfl, rfl⟩, Nat.succ_ne_self _⟩, fun b hb => ?_, q⟩
      have e' : b = s1.heap.objs.size + 1 ∨ b = s1.heap.objs.size := by simpa using hb
      have hle : s1.heap.objs.size ≤ b := by
        rcases e' with z | z
        · rw [z]; exact Nat.le_add_right _ _
        · rw [z]; exact Nat.le_refl _
      exact I1.fpOk hle (I1.hok.fresh hle)
theorem walk_enumT {K : PySem.W.Frag} {a : Addr} {xs : List V} : Walk (IeT K a) xs.length (fun H => SqT K H a xs) (YPair (fun i => some (.int (i : Nat))) (fun i => xs[i]?)) := by
  refine ⟨fun i _ hi q => ⟨xs, xs[i], q, by simp [hi]⟩, fun _ q => ⟨xs, q, Nat.le_refl _⟩, fun i H v H' _ q y => ?_⟩
  obtain ⟨T, x, h1, h2, h3, h4⟩ := y
  exact ⟨T, .int (i : Nat), x, h1, h2, h3, rfl, h4 xs q⟩
end Rt
namespace Rt
open PySem PySem.Spec L2
open PyProof.Rows hiding St
theorem TypeIs.looks {M : Model} {s : Shared} {v : Value} {T : String} (h : s.TypeIs v T) : PySem.W.Looks M s.heap (typeOf v) (.type T) := by
  cases v with
  | ref a =>
    obtain ⟨o, e, c⟩ := h
    exact c ▸ (PySem.W.Looks.ld e).andThen .now
  | _ => exact PySem.W.Looks.of_pure h
/-- own ==, !=: the other one is of a built-in type -/
def rOwnT (K : PySem.W.Frag) (C : Addr) (T : String) (sp : Sp) : R2 := fun x y H Q => ∃ (a dx : Addr) (fs : List (Str × V)), x = .ref a ∧ H a = some (.ins C dx fs) ∧ tyV K T y H ∧ sp [.ref a, y] H (fun v H' => ∃ c : Bool, v = .bl c ∧ Q (.bl c) H') E0
section
variable {X : Cx} {k j : Nat} {C : Addr} {sp : Sp} {T : String}
theorem rc_ownT {op : CmpOp} {m : Str} (hm : (cmpInfo op).2.1 = m) (M : Md X.prog X.w X.K X.mg X.base k C m sp) (hr : Room j X.A) (hk : k ≤ j) (hn : PySem.W.notFirst X.K C (.type T) = true) {pins : List (Addr × Obj)} {s : Shared} {σ : L2.St} {H : Hp} {x y : V} {u v : Value} {Q : VK}
    (I : Inv X pins σ H s) (rx : L2.RelV x u) (ry : L2.RelV y v) (d : rOwnT X.K C T sp x y H Q) : wpAny (model X.prog X.w) X.A (richCompare op u v) (EP X pins σ Q) X.xe s := by
  obtain ⟨a, dx, fs, rfl, ha, hy, hsp⟩ := d
  obtain ⟨f, fd, ps, mt, F, hb⟩ := M.ex
  cases rx
  obtain ⟨mA, J, _⟩ := ins_get I.hok ha
  obtain ⟨od, J, _⟩ := J.look
  have L := TypeIs.looks (M := model X.prog X.w) (tyV_is I ry hy).1
  obtain ⟨mm, hF⟩ := I.fr
  have hr' := hr.mono hk
  refine PySem.W.cmp_K (op := op) (tb := .type T) hr'.units0 hF I.ok.mod.kin J L hn (by rw [hm]; exact mt.at_) mt.fn ?_
  have hl := F.len _ _ _ _ hsp
  have r2 : Vals [V.ref a, y] [Value.ref a, v] := .cons rfl (.cons ry .nil)
  refine wpAny_call (codeAny_mono (F.run X.A X.stack s H ⟨[.ref a, v], []⟩ [.ref a, v] [.ref a, y] _ E0 hr' I.env0 (by
    have := hb s [.ref a, v] I.kIn (by simpa using hl)
    simpa using this) r2 hsp) fun r s' hq => ?_)
  cases r with
  | error e => exact False.elim hq
  | ok fl =>
    cases fl with
    | ret w =>
      obtain ⟨z, H', I', rz, c, rfl, q⟩ := I.after hq
      cases rz
      exact ⟨.bl c, H', I', rfl, q⟩
    | next => exact False.elim hq
    | brk => exact False.elim hq
    | cont => exact False.elim hq
theorem op_ownEqT (M : Md X.prog X.w X.K X.mg X.base k C "__eq__" sp) (hr : Room j X.A) (hk : k ≤ j) (hn : PySem.W.notFirst X.K C (.type T) = true) : OpR X (compareOp .Eq) (rOwnT X.K C T sp) := by
  intro pins s σ H x y v u Q I rx ry hq
  show wpAny (model X.prog X.w) X.A (richCompare .Eq v u) (EP X pins σ Q) X.xe s
  exact rc_ownT rfl M hr hk hn I rx ry hq
theorem op_ownNeT (M : Md X.prog X.w X.K X.mg X.base k C "__ne__" sp) (hr : Room j X.A) (hk : k ≤ j) (hn : PySem.W.notFirst X.K C (.type T) = true) : OpR X (compareOp .NotEq) (rOwnT X.K C T sp) := by
  intro pins s σ H x y v u Q I rx ry hq
  show wpAny (model X.prog X.w) X.A (richCompare .NotEq v u) (EP X pins σ Q) X.xe s
  exact rc_ownT rfl M hr hk hn I rx ry hq
end
theorem first_list {K : PySem.W.Frag} {C : Addr} : PySem.W.notFirst K C (.type "list") = true := by rfl
theorem first_int {K : PySem.W.Frag} {C : Addr} : PySem.W.notFirst K C (.type "int") = true := by rfl
/-! ### methods that may raise -/
structure MdX (P : Program) (w : World) (K : PySem.W.Frag) (mg : Str → Option Value) (base : Heap) (k : Nat) (C : Addr) (m : Str) (sp : Sp) : Prop where
  ex : ∃ (f : Addr) (fd : FuncData) (ps : List Str), Meth K C m f ∧ FnOk P w K mg base (L2.CX P w) k f fd ps sp ∧ Binds K fd ps []
theorem MAt.mdx {P : Program} {w : World} {K : PySem.W.Frag} {mg : Str → Option Value} {base : Heap} {C : Addr} {m qual : Str} {st : Stmt} {k : Nat} {ps : List Str} {sp : Sp} (A : MAt K C m qual st) (ok : ∀ (f : Addr) (fd : FuncData), Fun K m qual st f fd → FnOk P w K mg base (L2.CX P w) k f fd ps sp)
    (bd : ∀ (f : Addr) (fd : FuncData), Fun K m qual st f fd → Binds K fd ps []) : MdX P w K mg base k C m sp := by
  obtain ⟨f, fd, h, F⟩ := A.ex
  exact ⟨f, fd, ps, h, ok f fd F, bd f fd F⟩
section
variable {X : Cx} {k j : Nat} {C : Addr} {m : Str} {sp : Sp} {p pos apos : Pos} {o e : Expr} {es : List Expr} {ta : TE} {t : TA} {W : WX} {E : XK}
theorem pe_mx {pl : Sem Bool} (c : Cls X.K C) (M : MdX X.prog X.w X.K X.mg X.base k C m sp) (hr : Room j X.A) (hk : k ≤ j) (tk : Takes X W) (hW : ∀ cls d σ H, E cls d H → W cls d σ H) (he : PE X o ta) (ha : PA X (e :: es) t)
    (hst : starEach (e :: es) X.env = (false, eval e X.env) :: starEach es X.env := by rfl) (hpl : (backTo pos (starEach es X.env)).any (·.1) = false := by rfl)
    (ht : eval (.Call (.Attribute o m apos) (e :: es) [] pos) X.env = (do
      let ov ← eval o X.env
      standAt apos.atName
      let (f, first) ← holding [ov] (getMethod ov m pl)
      callWith pos f first (backTo pos (starEach (e :: es) X.env)) (backToKw pos (keywordEach [] X.env))) := by rfl) :
    PE X (.Call (.Attribute o m apos) (e :: es) [] pos) (tMeth C m sp [] E ta t) := by
  obtain ⟨f, fd, ps, hm, F, b⟩ := M.ex
  exact pe_meth he c hm F (hr.mono hk) b .nil (passes_call tk hW) ha hst hpl ht
end
end Rt
namespace Rt
open PySem PySem.Spec L2
open PyProof.Rows hiding St
/-! ### range(a, b) of any integers -/
theorem turn_long {P : Program} {w : World} {K : PySem.W.Frag} {tg : Expr} (it : Addr) (lo : Int) (n : Nat) : Turn P w K tg (Itr lo n) [it] it (fun i h => IsLongIter h it (lo + (i : Nat) * 1) ((n : Int) - (i : Nat)) 1) where
  mem := by simp
  obj := fun i h st b hb => by
    have e : b = it := by simpa using hb
    subst e
    exact ⟨_, st, fun v z => by
      have z' : Data.fields _ = Data.cell v := z
      cases z'⟩
  keep := fun i h h' st k => k it (by simp) _ st
  item := by
    intro X hP hw hK hc i pins s σ H E I hf st hg
    subst hP hw hK
    obtain ⟨f0, f1, f2, f3, f4, f5⟩ := hf it (by simp)
    have W := Walks.longrange (prog := X.prog) (w := X.w) (I.ok.hd hc) it lo 1 n
    refine W.item i s _ _ hg st fun v h' tk hv st' kk => ?_
    obtain ⟨t, rfl⟩ := hv
    have I1 : Inv X pins σ H { s with heap := h', toks := tk } := I.turned (fun b o hb e => kk b o (by simpa using hb) e) f0 f1 f3 f4 f5
    refine ⟨_, rfl, go_of (s := { s with heap := h', toks := tk }) (n := "longrange_iterator") st' rfl rfl (by decide) ⟨.int (lo + i), H, I1, ⟨t, ?_⟩, ⟨rfl, rfl⟩, st', fun b hb => (hf b hb).1⟩⟩
    rw [Int.mul_one]
  done := by
    intro X hP hw hK hc i pins s σ H E I hf st hg
    subst hP hw hK
    obtain ⟨f0, f1, f2, f3, f4, f5⟩ := hf it (by simp)
    exact wpAny_pyNext_long_end (I.ok.hd hc) st (by have : n ≤ i := hg; omega) fun h' eb => ⟨rfl, I.turned (t' := s.toks) (fun b o hb e => eb b o hb e) f0 f1 f3 f4 f5⟩
  self := fun _ _ _ _ _ st h => wpAny_pyIter_longiter st h
theorem range_any {X : Cx} {tg : Expr} {pins : List (Addr × Obj)} {σ : L2.St} {H : Hp} {s : Shared} {R : It → Hp → Prop} {E : Value → Shared → Prop} {lo hi : Int} {t u v : Tok} {tk : Nat} (I : Inv X pins σ H s)
    (q : R (Itr lo (hi - lo).toNat) H) : wpAny (model X.prog X.w) X.A (pyIter (.ref s.heap.objs.size)) (PIE X pins σ tg R) E { s with heap := s.heap.push { cls := .type "range", data := .fields #[.int lo t, .int hi u, .int 1 v] }, toks := tk } := by
  have I1 : Inv X pins σ H { s with heap := s.heap.push { cls := .type "range", data := .fields #[.int lo t, .int hi u, .int 1 v] }, toks := tk } := I.kept fun b o e => Heap.get?_push_of_some _ e
  have e1 : lo + ((0 : Nat) : Int) * 1 = lo := by simp
  have e2 : (((hi - lo).toNat : Nat) : Int) - ((0 : Nat) : Int) = Builtin.Range.rangeSize lo hi 1 := by rw [rangeSize_one]; split <;> omega
  by_cases hsm : Builtin.Range.small lo hi 1 = true
  · refine wpAny_pyIter_range (IsRange.new ..) hsm ?_
    refine ⟨(s.heap.push { cls := .type "range", data := .fields #[.int lo t, .int hi u, .int 1 v] }).objs.size, [(s.heap.push { cls := .type "range", data := .fields #[.int lo t, .int hi u, .int 1 v] }).objs.size], _, _, H, rfl,
      I1.kept (t' := tk) fun b o e => Heap.get?_push_of_some _ e, turn_range _ lo (hi - lo).toNat, ?_, fun b hb => ?_, q⟩
    · show IsRangeIter _ _ (lo + ((0 : Nat) : Int) * 1) ((((hi - lo).toNat : Nat) : Int) - ((0 : Nat) : Int)) 1
      rw [e1, e2]
      exact Heap.get?_push_size _ rfl
    · have e : b = (s.heap.push { cls := .type "range", data := .fields #[.int lo t, .int hi u, .int 1 v] }).objs.size := by simpa using hb
      subst e
      exact I1.fpOk (Nat.le_refl _) (I1.hok.fresh (Nat.le_refl _))
  · refine wpAny_pyIter_longrange (IsRange.new ..) (by simpa using hsm) ?_
    refine ⟨(s.heap.push { cls := .type "range", data := .fields #[.int lo t, .int hi u, .int 1 v] }).objs.size, [(s.heap.push { cls := .type "range", data := .fields #[.int lo t, .int hi u, .int 1 v] }).objs.size], _, _, H, rfl,
      I1.kept (t' := tk) fun b o e => Heap.get?_push_of_some _ e, turn_long _ lo (hi - lo).toNat, ?_, fun b hb => ?_, q⟩
    · show IsLongIter _ _ (lo + ((0 : Nat) : Int) * 1) ((((hi - lo).toNat : Nat) : Int) - ((0 : Nat) : Int)) 1
      rw [e1, e2]
      exact Heap.get?_push_size _ rfl
    · have e : b = (s.heap.push { cls := .type "range", data := .fields #[.int lo t, .int hi u, .int 1 v] }).objs.size := by simpa using hb
      subst e
      exact I1.fpOk (Nat.le_refl _) (I1.hok.fresh (Nat.le_refl _))
def iRng2A (ta : TA) : TI := fun σ H R => ta σ H fun vs H1 => ∃ i j : Int, vs = [.int i, .int j] ∧ R (Itr i (j - i).toNat) H1
theorem pi_rangeA {X : Cx} {tg : Expr} {a b : Expr} {ta : TA} {p pos : Pos} (hg : Gl X "range") (hm : X.mg "range" = none) (ha : PA X [a, b] ta) (hs : starEach [a, b] X.env = [(false, eval a X.env), (false, eval b X.env)] := by rfl) (hs2 : starEach [b] X.env = [(false, eval b X.env)] := by rfl) :
    PI X tg (.Call (.Name "range" p) [a, b] [] pos) (iRng2A ta) := by
  refine ⟨fun pins s σ H R I h => ?_⟩
  refine Call_ (ld_blt I hg hm boot_range (PyProof.Rows.callWith_type1 (thn (ha.run pos pins s σ H _ I h) fun us s1 ⟨vs, H1, I1, r1, q1⟩ => ?_) (by rw [hs, hs2]) (by rw [hs2]; rfl)))
  obtain ⟨i, j, e, q⟩ := q1
  subst e
  cases r1 with
  | cons r rr =>
    cases rr with
    | cons r' rr =>
      cases rr
      obtain ⟨t, rfl⟩ := r
      obtain ⟨t', rfl⟩ := r'
      exact call_range_2 (range_any I1 q)
end Rt
/-! ### rising, the rows of numbers counted by points and their rests -/
namespace Rise2
open Rise
def off (N : Nat) (s : Nat → Int) : Nat → Nat
  | 0 => 0
  | p + 1 => off N s p + ((N : Int) / s p).toNat
theorem off_mono {N : Nat} {s : Nat → Int} : ∀ {q p : Nat}, p ≤ q → off N s p ≤ off N s q
  | 0, p, h => by rw [Nat.le_zero.mp h]; exact Nat.le_refl _
  | q + 1, p, h => by
    rcases Nat.lt_or_ge p (q + 1) with lt | ge
    · have := off_mono (N := N) (s := s) (show p ≤ q by omega)
      show off N s p ≤ off N s q + _
      omega
    · rw [show p = q + 1 by omega]
      exact Nat.le_refl _
def code (N : Nat) (f s : Nat → Int) (a : Nat × Int) : Nat := off N s a.1 + (((a.2 - f a.1) % (N : Int)) / s a.1).toNat
theorem code_lt {N : Nat} {f s : Nat → Int} {a : Nat × Int} (h0 : 0 < N) (s0 : 0 < s a.1) (sd : s a.1 ∣ (N : Int)) : code N f s a < off N s (a.1 + 1) := by
  unfold code
  show _ < off N s a.1 + ((N : Int) / s a.1).toNat
  have b0 := Int.emod_nonneg (a.2 - f a.1) (show (N : Int) ≠ 0 by omega)
  have b1 := Int.emod_lt_of_pos (a.2 - f a.1) (show (0 : Int) < N by omega)
  have c0 : 0 ≤ (a.2 - f a.1) % (N : Int) / s a.1 := Int.ediv_nonneg b0 (by omega)
  have c1 : (a.2 - f a.1) % (N : Int) / s a.1 < (N : Int) / s a.1 := Int.ediv_lt_of_lt_mul s0 (by rw [Int.ediv_mul_cancel sd]; exact b1)
  omega
theorem code_inj {N : Nat} {f s : Nat → Int} (h0 : 0 < N) {p q : Nat} {x y : Int} (sp : 0 < s p) (dp : s p ∣ (N : Int)) (sq : 0 < s q) (dq : s q ∣ (N : Int)) (ox : (x - f p) % s p = 0) (oy : (y - f q) % s q = 0) (e : code N f s (p, x) = code N f s (q, y)) : p = q ∧ x % (N : Int) = y % (N : Int) := by
  have pq : p = q := by
    rcases Nat.lt_trichotomy p q with lt | eq | gt
    · have a := code_lt (f := f) (a := (p, x)) h0 sp dp
      have b := off_mono (N := N) (s := s) (show p + 1 ≤ q by omega)
      have c : off N s q ≤ code N f s (q, y) := Nat.le_add_right _ _
      simp only at a
      omega
    · exact eq
    · have a := code_lt (f := f) (a := (q, y)) h0 sq dq
      have b := off_mono (N := N) (s := s) (show q + 1 ≤ p by omega)
      have c : off N s p ≤ code N f s (p, x) := Nat.le_add_right _ _
      simp only at a
      omega
  subst pq
  refine ⟨rfl, ?_⟩
  unfold code at e
  simp only at e
  have bx := Int.emod_nonneg (x - f p) (show (N : Int) ≠ 0 by omega)
  have by' := Int.emod_nonneg (y - f p) (show (N : Int) ≠ 0 by omega)
  have cx : 0 ≤ (x - f p) % (N : Int) / s p := Int.ediv_nonneg bx (by omega)
  have cy : 0 ≤ (y - f p) % (N : Int) / s p := Int.ediv_nonneg by' (by omega)
  have e2 : (x - f p) % (N : Int) / s p = (y - f p) % (N : Int) / s p := by omega
  have mx : (x - f p) % (N : Int) % s p = 0 := by rw [Int.emod_emod_of_dvd _ dp]; exact ox
  have my : (y - f p) % (N : Int) % s p = 0 := by rw [Int.emod_emod_of_dvd _ dp]; exact oy
  have z1 := Int.emod_add_mul_ediv ((x - f p) % (N : Int)) (s p)
  have z2 := Int.emod_add_mul_ediv ((y - f p) % (N : Int)) (s p)
  rw [mx] at z1
  rw [my] at z2
  have e3 : (x - f p) % (N : Int) = (y - f p) % (N : Int) := by rw [← z1, ← z2, e2]
  have w := Int.emod_eq_emod_iff_emod_sub_eq_zero.mp e3
  rw [show x - f p - (y - f p) = x - y by omega] at w
  exact Int.emod_eq_emod_iff_emod_sub_eq_zero.mpr w
section
variable {n N : Nat} {f s T : Nat → Int}
/-- how a number has come: a row of numbers, each led to by the next one -/
structure Chain (n N : Nat) (f s T X : Nat → Int) (p k : Nat) : Prop where
  ex : ∃ c : List (Nat × Int), c.length = k + 1 ∧ (∀ a, a ∈ c → a.1 < n ∧ a.2 ≤ X a.1 ∧ (a.2 - f a.1) % s a.1 = 0 ∧ ∀ K : Int, a.2 + K * N ≤ T a.1 → X p + K * N ≤ T p) ∧ (c.map (code N f s)).Nodup
theorem Chain.start {X : Nat → Int} {p : Nat} (h : p < n) (on : (X p - f p) % s p = 0) : Chain n N f s T X p 0 :=
  ⟨[(p, X p)], rfl, fun a m => by cases List.mem_singleton.mp m; exact ⟨h, Int.le_refl _, on, fun K z => z⟩, by simp⟩
theorem Chain.bound {X : Nat → Int} {p k : Nat} (h0 : 0 < N) (ok : ∀ p, p < n → 0 < s p ∧ s p ∣ (N : Int)) (h : Chain n N f s T X p k) : k + 1 ≤ off N s n := by
  obtain ⟨c, l, a, nd⟩ := h.ex
  have q := nodup_len (off N s n) (c.map (code N f s)) nd (fun x m => by
    obtain ⟨b, hb, rfl⟩ := List.mem_map.mp m
    have hb1 := (a b hb).1
    have lt := code_lt (f := f) (a := b) h0 (ok _ hb1).1 (ok _ hb1).2
    have := off_mono (N := N) (s := s) (show b.1 + 1 ≤ n by omega)
    omega)
  rw [List.length_map, l] at q
  exact q
theorem Chain.keep {X Y : Nat → Int} {p k : Nat} (h : Chain n N f s T X p k) (up : ∀ q, X q ≤ Y q) (e : Y p = X p) : Chain n N f s T Y p k := by
  obtain ⟨c, l, a, nd⟩ := h.ex
  refine ⟨c, l, fun b m => ?_, nd⟩
  obtain ⟨a1, a2, a4, a3⟩ := a b m
  exact ⟨a1, Int.le_trans a2 (up _), a4, fun K z => by rw [e]; exact a3 K z⟩
theorem Chain.raise {X Y : Nat → Int} {p q k : Nat} {l : Int} (h0 : 0 < N) (oks : ∀ p, p < n → 0 < s p ∧ s p ∣ (N : Int)) (hp : p < n) (tp : (T p - f p) % s p = 0) (ok : T q + l ≤ T p) (h : Chain n N f s T X q k)
    (gt : X p < upc (f p) (s p) (X q + l)) (e : Y p = upc (f p) (s p) (X q + l)) (up : ∀ q, X q ≤ Y q) : Chain n N f s T Y p (k + 1) := by
  obtain ⟨c, lc, a, nd⟩ := h.ex
  have sp := (oks p hp).1
  have sd := (oks p hp).2
  have led : ∀ K : Int, X q + K * N ≤ T q → Y p + K * N ≤ T p := fun K z => by
    rw [e]
    have := upc_least (x := X q + l) (z := T p - K * N) sp (by omega) (on_add sd tp)
    omega
  have onY : (Y p - f p) % s p = 0 := by rw [e]; exact upc_on ..
  refine ⟨(p, Y p) :: c, by rw [List.length_cons, lc], fun b m => ?_, ?_⟩
  · rcases List.mem_cons.mp m with rfl | m
    · exact ⟨hp, Int.le_refl _, onY, fun K z => z⟩
    · obtain ⟨a1, a2, a4, a3⟩ := a b m
      exact ⟨a1, Int.le_trans a2 (up _), a4, fun K z => led K (a3 K z)⟩
  · rw [List.map_cons, List.nodup_cons]
    refine ⟨fun m => ?_, nd⟩
    obtain ⟨b, hb, eb⟩ := List.mem_map.mp m
    obtain ⟨a1, a2, a4, a3⟩ := a b hb
    obtain ⟨b1, b2⟩ := b
    have a1 : b1 < n := a1
    have a2 : b2 ≤ X b1 := a2
    have a3 : ∀ K : Int, b2 + K * N ≤ T b1 → X q + K * N ≤ T q := a3
    obtain ⟨ep, em⟩ := code_inj h0 (oks _ a1).1 (oks _ a1).2 sp sd a4 onY eb
    have ep : b1 = p := ep
    subst ep
    have lt : b2 < Y b1 := by rw [e]; omega
    have d : (N : Int) ∣ Y b1 - b2 := Int.dvd_of_emod_eq_zero (Int.emod_eq_emod_iff_emod_sub_eq_zero.mp em.symm)
    have le : (N : Int) ≤ Y b1 - b2 := Int.le_of_dvd (by omega) d
    have z1 := Int.emod_add_mul_ediv (T b1 - b2) (N : Int)
    have z2 := Int.emod_nonneg (T b1 - b2) (show (N : Int) ≠ 0 by omega)
    have z3 := Int.emod_lt_of_pos (T b1 - b2) (show (0 : Int) < N by omega)
    rw [Int.mul_comm] at z1
    have w := led _ (a3 ((T b1 - b2) / (N : Int)) (by omega))
    omega
/-- what stands in a lap: L tells how long the rows are; each rule is kept, or a number ahead of it has come far -/
structure Lap (n N : Nat) (f s T : Nat → Int) (RA : Nat → Nat → Nat → Int → Prop) (X : Nat → Int) (L : Nat → Nat) (m t : Nat) : Prop where
  ch : ∀ p, p < n → Chain n N f s T X p (L p)
  ra : ∀ k i j l, RA k i j l → X i + l ≤ X j ∨ (if k < t then m + 1 else m) ≤ L i
variable {RA : Nat → Nat → Nat → Int → Prop}
theorem Lap.start {X : Nat → Int} (on : ∀ p, p < n → (X p - f p) % s p = 0) : Lap n N f s T RA X (fun _ => 0) 0 0 := ⟨fun p h => Chain.start h (on p h), fun k i j l _ => .inr (by simp)⟩
theorem Lap.next {X : Nat → Int} {L : Nat → Nat} {m t : Nat} (h : Lap n N f s T RA X L m t) (all : ∀ k i j l, RA k i j l → k < t) : Lap n N f s T RA X L (m + 1) 0 := by
  refine ⟨h.ch, fun k i j l r => ?_⟩
  have := h.ra k i j l r
  rw [if_pos (all k i j l r)] at this
  simpa using this
theorem Lap.still {X : Nat → Int} {L : Nat → Nat} {m t i j : Nat} {l : Int} (h : Lap n N f s T RA X L m t) (uniq : ∀ i' j' l', RA t i' j' l' → i' = i ∧ j' = j ∧ l' = l) (le : X i + l ≤ X j) : Lap n N f s T RA X L m (t + 1) := by
  refine ⟨h.ch, fun k i' j' l' r => ?_⟩
  by_cases e : k = t
  · subst e
    obtain ⟨rfl, rfl, rfl⟩ := uniq _ _ _ r
    exact .inl le
  · rcases h.ra k i' j' l' r with z | z
    · exact .inl z
    · refine .inr ?_
      by_cases lt : k < t
      · rw [if_pos lt] at z
        rw [if_pos (by omega)]
        exact z
      · rw [if_neg lt] at z
        rw [if_neg (by omega)]
        exact z
theorem Lap.raise {X Y : Nat → Int} {L : Nat → Nat} {m t i j : Nat} {l : Int} (h0 : 0 < N) (oks : ∀ p, p < n → 0 < s p ∧ s p ∣ (N : Int)) (h : Lap n N f s T RA X L m t) (r : RA t i j l) (uniq : ∀ i' j' l', RA t i' j' l' → i' = i ∧ j' = j ∧ l' = l) (hi : i < n) (hj : j < n)
    (tp : (T j - f j) % s j = 0) (ok : T i + l ≤ T j) (on : (X j - f j) % s j = 0)
    (gt : X j < upc (f j) (s j) (X i + l)) (e : Y j = upc (f j) (s j) (X i + l)) (same : ∀ q, q ≠ j → Y q = X q) : Lap n N f s T RA Y (fun q => if q = j then L i + 1 else L q) m (t + 1) ∧ m + 2 ≤ off N s n ∧ L i + 2 ≤ off N s n := by
  have up : ∀ q, X q ≤ Y q := fun q => by
    by_cases z : q = j
    · subst z
      rw [e]
      omega
    · rw [same q z]
      exact Int.le_refl _
  have sp := (oks j hj).1
  have far : m ≤ L i := by
    rcases h.ra t i j l r with z | z
    · exact absurd (upc_least sp z on) (by omega)
    · rw [if_neg (by omega)] at z
      exact z
  have ch := (h.ch i hi).raise h0 oks hj tp ok gt e up
  have b := ch.bound h0 oks
  refine ⟨⟨fun p hp => ?_, fun k i' j' l' r' => ?_⟩, by omega, by omega⟩
  · by_cases z : p = j
    · subst z
      simp only [if_true]
      exact ch
    · simp only [if_neg z]
      exact (h.ch p hp).keep up (same p z)
  · by_cases z : i' = j
    · right
      simp only [if_pos z]
      split <;> omega
    · simp only [if_neg z]
      rw [same i' z]
      by_cases et : k = t
      · subst et
        obtain ⟨rfl, rfl, rfl⟩ := uniq _ _ _ r'
        left
        rw [e]
        exact upc_ge sp
      · rcases h.ra k i' j' l' r' with y | y
        · exact .inl (Int.le_trans y (up _))
        · right
          by_cases lt : k < t
          · rw [if_pos lt] at y
            rw [if_pos (by omega)]
            exact y
          · rw [if_neg lt] at y
            rw [if_neg (by omega)]
            exact y
end
end Rise2
namespace K14
open PySem PySem.Spec L2 Rt
open PyProof.Rows hiding St

abbrev sPUp : Stmt := top 15
abbrev sMClock : Stmt := inClass (top 23) 5
abbrev sRInit : Stmt := inClass (top 25) 0
abbrev sRNum : Stmt := inClass (top 25) 1
abbrev sRNums : Stmt := inClass (top 25) 2
abbrev sFol : Stmt := inClass (top 25) 3
abbrev sFin : Stmt := inClass (top 25) 4
abbrev sForced : Stmt := top 26
abbrev sEar : Stmt := top 27
theorem up_eq {f s x : Int} (s0 : 0 < s) : x + (f - x) % s = upv f s x := by
  have h1 := Int.emod_nonneg (f - x) (show s ≠ 0 by omega)
  have h2 := Int.emod_lt_of_pos (f - x) s0
  have e := Int.emod_add_mul_ediv (f - x) s
  have g1 := upv_on f s x
  have g2 := upv_le (f := f) (x := x) s0
  have g3 := upv_lt (f := f) (x := x) s0
  obtain ⟨k, hk⟩ := Int.dvd_of_emod_eq_zero g1
  have d : x + (f - x) % s - upv f s x = s * (-((f - x) / s) - k) := by
    rw [Int.mul_sub, Int.mul_neg, ← hk]
    omega
  have b : -((f - x) / s) - k = 0 := by
    have lo : -s < s * (-((f - x) / s) - k) := by omega
    have hi : s * (-((f - x) / s) - k) < s := by omega
    have l1 : -1 < -((f - x) / s) - k := by
      refine Int.not_le.mp fun z => ?_
      have := Int.mul_le_mul_of_nonneg_left z (show 0 ≤ s by omega)
      omega
    have l2 : -((f - x) / s) - k < 1 := by
      refine Int.not_le.mp fun z => ?_
      have := Int.mul_le_mul_of_nonneg_left z (show 0 ≤ s by omega)
      omega
    omega
  rw [b, Int.mul_zero] at d
  omega
def spMClock (C : Addr) : Sp := fun vs H Q _ => ∃ (a : Addr) (ps : List Pt) (rs : List Rl) (i : Nat) (p : Pt), vs = [.ref a, .str p.1] ∧ NetAt H C a ps rs ∧ (namesOf ps).Nodup ∧ ps[i]? = some p ∧ ∀ (t : Addr) (H' : Hp), Same H H' → H' t = some (.tup [.int p.2.1, .int p.2.2]) → Q (.ref t) H'
def spPUp : Sp := fun vs H Q _ => ∃ (t : Addr) (f s x : Int), vs = [.ref t, .int x] ∧ H t = some (.tup [.int f, .int s]) ∧ 0 < s ∧ Q (.int (x + (f - x) % s)) H
/-! ### rising: what an object keeps -/
abbrev RT := Nat × Int × Option Nat × Option Nat × Nat
def oV : Option Nat → V
  | none => .non
  | some i => .int (i : Nat)
def raV (r : RT) : HO := .tup [.int (r.1 : Nat), .int r.2.1, oV r.2.2.1, oV r.2.2.2.1, .int (r.2.2.2.2 : Nat)]
def ckV (p : Pt) : HO := .tup [.int p.2.1, .int p.2.2]
def ruV (r : Nat × Nat × Int) : HO := .tup [.int (r.1 : Nat), .int (r.2.1 : Nat), .int r.2.2]
section
variable {x1 x2 x3 x4 x5 x6 : V}
theorem lk1 : List.lookup ("_names" : Str) [(("_names" : Str), x1), (("_period" : Str), x2), (("_clocks" : Str), x3), (("_rules" : Str), x4), (("_raises" : Str), x5), (("_last" : Str), x6)] = some x1 := by
  simp [List.lookup]
theorem lk2 : List.lookup ("_period" : Str) [(("_names" : Str), x1), (("_period" : Str), x2), (("_clocks" : Str), x3), (("_rules" : Str), x4), (("_raises" : Str), x5), (("_last" : Str), x6)] = some x2 := by
  have h0 : (("_period" : Str) == ("_names" : Str)) = false := by decide +kernel
  simp [List.lookup, h0]
theorem lk3 : List.lookup ("_clocks" : Str) [(("_names" : Str), x1), (("_period" : Str), x2), (("_clocks" : Str), x3), (("_rules" : Str), x4), (("_raises" : Str), x5), (("_last" : Str), x6)] = some x3 := by
  have h0 : (("_clocks" : Str) == ("_names" : Str)) = false := by decide +kernel
  have h1 : (("_clocks" : Str) == ("_period" : Str)) = false := by decide +kernel
  simp [List.lookup, h0, h1]
theorem lk4 : List.lookup ("_rules" : Str) [(("_names" : Str), x1), (("_period" : Str), x2), (("_clocks" : Str), x3), (("_rules" : Str), x4), (("_raises" : Str), x5), (("_last" : Str), x6)] = some x4 := by
  have h0 : (("_rules" : Str) == ("_names" : Str)) = false := by decide +kernel
  have h1 : (("_rules" : Str) == ("_period" : Str)) = false := by decide +kernel
  have h2 : (("_rules" : Str) == ("_clocks" : Str)) = false := by decide +kernel
  simp [List.lookup, h0, h1, h2]
theorem lk5 : List.lookup ("_raises" : Str) [(("_names" : Str), x1), (("_period" : Str), x2), (("_clocks" : Str), x3), (("_rules" : Str), x4), (("_raises" : Str), x5), (("_last" : Str), x6)] = some x5 := by
  have h0 : (("_raises" : Str) == ("_names" : Str)) = false := by decide +kernel
  have h1 : (("_raises" : Str) == ("_period" : Str)) = false := by decide +kernel
  have h2 : (("_raises" : Str) == ("_clocks" : Str)) = false := by decide +kernel
  have h3 : (("_raises" : Str) == ("_rules" : Str)) = false := by decide +kernel
  simp [List.lookup, h0, h1, h2, h3]
theorem lk6 : List.lookup ("_last" : Str) [(("_names" : Str), x1), (("_period" : Str), x2), (("_clocks" : Str), x3), (("_rules" : Str), x4), (("_raises" : Str), x5), (("_last" : Str), x6)] = some x6 := by
  have h0 : (("_last" : Str) == ("_names" : Str)) = false := by decide +kernel
  have h1 : (("_last" : Str) == ("_period" : Str)) = false := by decide +kernel
  have h2 : (("_last" : Str) == ("_clocks" : Str)) = false := by decide +kernel
  have h3 : (("_last" : Str) == ("_rules" : Str)) = false := by decide +kernel
  have h4 : (("_last" : Str) == ("_raises" : Str)) = false := by decide +kernel
  simp [List.lookup, h0, h1, h2, h3, h4]
theorem lk_no {m : Str} (h0 : (m == ("_names" : Str)) = false) (h1 : (m == ("_period" : Str)) = false) (h2 : (m == ("_clocks" : Str)) = false) (h3 : (m == ("_rules" : Str)) = false) (h4 : (m == ("_raises" : Str)) = false) (h5 : (m == ("_last" : Str)) = false) : List.lookup m [(("_names" : Str), x1), (("_period" : Str), x2), (("_clocks" : Str), x3), (("_rules" : Str), x4), (("_raises" : Str), x5), (("_last" : Str), x6)] = none := by
  simp [List.lookup, h0, h1, h2, h3, h4, h5]
theorem pt2 : putF "_period" x2 [(("_names" : Str), x1)] = [(("_names" : Str), x1), (("_period" : Str), x2)] := by
  simp only [putF]
  rw [if_neg (by decide +kernel)]
theorem pt3 : putF "_clocks" x3 [(("_names" : Str), x1), (("_period" : Str), x2)] = [(("_names" : Str), x1), (("_period" : Str), x2), (("_clocks" : Str), x3)] := by
  simp only [putF]
  rw [if_neg (by decide +kernel), if_neg (by decide +kernel)]
theorem pt4 : putF "_rules" x4 [(("_names" : Str), x1), (("_period" : Str), x2), (("_clocks" : Str), x3)] = [(("_names" : Str), x1), (("_period" : Str), x2), (("_clocks" : Str), x3), (("_rules" : Str), x4)] := by
  simp only [putF]
  rw [if_neg (by decide +kernel), if_neg (by decide +kernel), if_neg (by decide +kernel)]
theorem pt5 : putF "_raises" x5 [(("_names" : Str), x1), (("_period" : Str), x2), (("_clocks" : Str), x3), (("_rules" : Str), x4)] = [(("_names" : Str), x1), (("_period" : Str), x2), (("_clocks" : Str), x3), (("_rules" : Str), x4), (("_raises" : Str), x5)] := by
  simp only [putF]
  rw [if_neg (by decide +kernel), if_neg (by decide +kernel), if_neg (by decide +kernel), if_neg (by decide +kernel)]
theorem pt6 : putF "_last" x6 [(("_names" : Str), x1), (("_period" : Str), x2), (("_clocks" : Str), x3), (("_rules" : Str), x4), (("_raises" : Str), x5)] = [(("_names" : Str), x1), (("_period" : Str), x2), (("_clocks" : Str), x3), (("_rules" : Str), x4), (("_raises" : Str), x5), (("_last" : Str), x6)] := by
  simp only [putF]
  rw [if_neg (by decide +kernel), if_neg (by decide +kernel), if_neg (by decide +kernel), if_neg (by decide +kernel), if_neg (by decide +kernel)]
end
structure ClsR (K : PySem.W.Frag) (C : Addr) : Prop where
  cls : Cls K C
  n1 : NoAttr K C "_names"
  n2 : NoAttr K C "_period"
  n3 : NoAttr K C "_clocks"
  n4 : NoAttr K C "_rules"
  n5 : NoAttr K C "_raises"
  n6 : NoAttr K C "_last"
structure RisAt (H : Hp) (CR a NA CA RA SA LA : Addr) (ps : List Pt) (ri : List (Nat × Nat × Int)) (rs : List RT) (la : List (Option Nat)) : Prop where
  at_ : ∃ dx, H a = some (.ins CR dx [("_names", .ref NA), ("_period", .int (lcmOf ps)), ("_clocks", .ref CA), ("_rules", .ref RA), ("_raises", .ref SA), ("_last", .ref LA)])
  nm : H NA = some (.lst ((namesOf ps).map V.str))
  ck : ∃ cs : List Addr, H CA = some (.lst (cs.map V.ref)) ∧ Row ckV H cs ps
  ru : ∃ bs : List Addr, H RA = some (.lst (bs.map V.ref)) ∧ Row ruV H bs ri
  ra : ∃ ss : List Addr, H SA = some (.lst (ss.map V.ref)) ∧ Row raV H ss rs
  la : H LA = some (.lst (la.map oV))
  d1 : SA ≠ LA
  d2 : NA ≠ SA ∧ NA ≠ LA
  d3 : CA ≠ SA ∧ CA ≠ LA
  d4 : RA ≠ SA ∧ RA ≠ LA
def Sb2 (S L : Addr) (H H' : Hp) : Prop := ∀ b o, H b = some o → b ≠ S → b ≠ L → H' b = some o
theorem Sb2.refl {S L : Addr} {H : Hp} : Sb2 S L H H := fun _ _ e _ _ => e
theorem Sb2.trans {S L : Addr} {H H1 H2 : Hp} (x : Sb2 S L H H1) (y : Sb2 S L H1 H2) : Sb2 S L H H2 := fun b o e n m => y b o (x b o e n m) n m
theorem Sb2.of {S L : Addr} {H H' : Hp} (s : Same H H') : Sb2 S L H H' := fun b o e _ _ => s b o e
theorem rowSb {α : Type} {g : α → HO} {S L : Addr} {H H' : Hp} {as : List Addr} {ps : List α} (r : Row g H as ps) (s : Sb2 S L H H') {xs ys : List V} (hS : H S = some (.lst xs)) (hL : H L = some (.lst ys)) (nl : ∀ p zs, g p ≠ .lst zs) : Row g H' as ps :=
  ⟨r.1, fun i a p h1 h2 => s _ _ (r.2 i a p h1 h2) (ne_of (r.2 i a p h1 h2) hS (nl p xs)) (ne_of (r.2 i a p h1 h2) hL (nl p ys))⟩
theorem RisAt.same {H H' : Hp} {CR a NA CA RA SA LA : Addr} {ps : List Pt} {ri : List (Nat × Nat × Int)} {rs : List RT} {la : List (Option Nat)} (h : RisAt H CR a NA CA RA SA LA ps ri rs la) (s : Same H H') : RisAt H' CR a NA CA RA SA LA ps ri rs la := by
  obtain ⟨dx, h1⟩ := h.at_
  obtain ⟨cs, c1, c2⟩ := h.ck
  obtain ⟨bs, b1, b2⟩ := h.ru
  obtain ⟨ss, s1, s2⟩ := h.ra
  exact ⟨⟨dx, s _ _ h1⟩, s _ _ h.nm, ⟨cs, s _ _ c1, c2.same s⟩, ⟨bs, s _ _ b1, b2.same s⟩, ⟨ss, s _ _ s1, s2.same s⟩, s _ _ h.la, h.d1, h.d2, h.d3, h.d4⟩
/-- a raise is told: the place of the last one, then the raise itself -/
theorem RisAt.push {H : Hp} {CR a NA CA RA SA LA q : Addr} {ps : List Pt} {ri : List (Nat × Nat × Int)} {rs : List RT} {la : List (Option Nat)} {ss : List Addr} {r : RT} {j : Nat} (h : RisAt H CR a NA CA RA SA LA ps ri rs la) (hss : H SA = some (.lst (ss.map V.ref))) (row : Row raV H ss rs)
    (nq : (upd H LA (.lst ((la.set j (some rs.length)).map oV))) q = none) :
    RisAt (upd (upd (upd H LA (.lst ((la.set j (some rs.length)).map oV))) q (raV r)) SA (.lst (ss.map V.ref ++ [V.ref q]))) CR a NA CA RA SA LA ps ri (rs ++ [r]) (la.set j (some rs.length)) ∧
    Sb2 SA LA H (upd (upd (upd H LA (.lst ((la.set j (some rs.length)).map oV))) q (raV r)) SA (.lst (ss.map V.ref ++ [V.ref q]))) := by
  have qL : LA ≠ q := ne_of_none upd_same nq
  have nq0 : H q = none := by
    rw [upd_ne qL.symm] at nq
    exact nq
  have qS : SA ≠ q := ne_of_none hss nq0
  have sb : Sb2 SA LA H (upd (upd (upd H LA (.lst ((la.set j (some rs.length)).map oV))) q (raV r)) SA (.lst (ss.map V.ref ++ [V.ref q]))) := fun b o e n m => by
    rw [upd_ne n, upd_ne (ne_of_none e nq0), upd_ne m]
    exact e
  obtain ⟨dx, h1⟩ := h.at_
  obtain ⟨cs, c1, c2⟩ := h.ck
  obtain ⟨bs, b1, b2⟩ := h.ru
  have hss' := hss
  have hla := h.la
  refine ⟨⟨⟨dx, sb _ _ h1 (ne_of h1 hss (by intro z; cases z)) (ne_of h1 hla (by intro z; cases z))⟩, sb _ _ h.nm h.d2.1 h.d2.2, ⟨cs, sb _ _ c1 h.d3.1 h.d3.2, rowSb c2 sb hss hla (fun p zs z => by cases z)⟩, ⟨bs, sb _ _ b1 h.d4.1 h.d4.2, rowSb b2 sb hss hla (fun p zs z => by cases z)⟩, ⟨ss ++ [q], ?_, ?_⟩, ?_, h.d1, h.d2, h.d3, h.d4⟩, sb⟩
  · rw [upd_same, List.map_append]
    rfl
  · have r2 := rowSb row sb hss hla (fun p zs z => by cases z)
    refine r2.snoc ?_
    rw [upd_ne qS.symm, upd_same]
  · rw [upd_ne h.d1.symm, upd_ne qL, upd_same]
def spRNum (CR : Addr) : Sp := fun vs H Q _ => ∃ (a NA CA RA SA LA : Addr) (ps : List Pt) (ri : List (Nat × Nat × Int)) (rs : List RT) (la : List (Option Nat)) (p i : Nat) (r : RT), vs = [.ref a, .int (p : Nat)] ∧ RisAt H CR a NA CA RA SA LA ps ri rs la ∧ la[p]? = some (some i) ∧ rs[i]? = some r ∧ Q (.int r.2.1) H
def spFol (CR : Addr) : Sp := fun vs H Q _ => ∃ (a NA CA RA SA LA : Addr) (ps : List Pt) (ri : List (Nat × Nat × Int)) (rs : List RT) (la : List (Option Nat)) (k i j ci cj : Nat) (l : Int) (r1 r2 : RT) (pj : Pt), vs = [.ref a, .int (k : Nat)] ∧ RisAt H CR a NA CA RA SA LA ps ri rs la ∧ ri[k]? = some (i, j, l) ∧
  la[i]? = some (some ci) ∧ rs[ci]? = some r1 ∧ la[j]? = some (some cj) ∧ rs[cj]? = some r2 ∧ ps[j]? = some pj ∧ 0 < pj.2.2 ∧ rs.length ≤ 1000000 ∧
  (upv pj.2.1 pj.2.2 (r1.2.1 + l) ≤ r2.2.1 → Q (.bl false) H) ∧
  (r2.2.1 < upv pj.2.1 pj.2.2 (r1.2.1 + l) → ∀ H', Sb2 SA LA H H' → RisAt H' CR a NA CA RA SA LA ps ri (rs ++ [(j, upv pj.2.1 pj.2.2 (r1.2.1 + l), some k, some ci, r1.2.2.2.2 + 1)]) (la.set j (some rs.length)) → Q (.bl true) H')
def spRNums (CR : Addr) : Sp := fun vs H Q _ => ∃ (a NA CA RA SA LA : Addr) (ps : List Pt) (ri : List (Nat × Nat × Int)) (rs : List RT) (la : List (Option Nat)) (xs : List Int), vs = [.ref a] ∧ RisAt H CR a NA CA RA SA LA ps ri rs la ∧ xs.length = ps.length ∧ ps.length ≤ 100 ∧ (∀ (p : Nat) (x : Int), xs[p]? = some x → ∃ (i : Nat) (r : RT), la[p]? = some (some i) ∧ rs[i]? = some r ∧ r.2.1 = x) ∧
  ∀ t H', Same H H' → H' t = some (.tup (xs.map V.int)) → Q (.ref t) H'
section
variable {P : Program} {w : World} {K : PySem.W.Frag} {mg : Str → Option Value} {base : Heap} {f C CR : Addr} {fd : FuncData}

theorem scPUp : FnScope ["clock", "x", "first", "step"] ["clock", "x"] (defScope sPUp) := ⟨rfl, rfl, rfl, by decide +kernel, rfl, by decide +kernel, by decide +kernel⟩
theorem ok_pup (F : Fun K "up" "up" sPUp f fd) : FnOk P w K mg base CX0 1 f fd ["clock", "x"] spPUp := by
  refine F.ok scPUp (fun vs H Q E h => ?_) (fun cdv A outer s H vs Q E hr h => ?_)
  · obtain ⟨t, f, s, x, rfl, _⟩ := h
    rfl
  · obtain ⟨t, f, s, x, rfl, ht, s0, k⟩ := h
    refine ⟨_, (pss_cons (ps_asg (pv 0) (pg_tup (by rfl) (pgs_cons (pg_name (i := 2) scPUp.nd rfl (.inl rfl)) (pgs_cons (pg_name (i := 3) scPUp.nd rfl (.inl rfl)) pgs_nil))))
      (pss_one (ps_ret (pe_op op_add (pv 1) (pe_op op_mod (pe_op op_sub (pv 2) (pv 1)) (pv 3)))))), ?_⟩
    refine ⟨_, rfl, t, _, rfl, SqT.of ht, rfl, _, _, rfl, _, _, rfl, rfl, ?_⟩
    refine ⟨_, rfl, _, rfl, _, rfl, _, _, rfl, rfl, _, rfl, _, _, rfl, rfl, s0, _, _, rfl, rfl, ?_⟩
    exact k
theorem scMClock : FnScope ["self", "name"] ["self", "name"] (defScope sMClock) := ⟨rfl, rfl, rfl, by decide +kernel, rfl, by decide +kernel, by decide +kernel⟩
theorem ok_mclock (F : Fun K "clock" "Network.clock" sMClock f fd) (cn : ClsN K C) (index : Md P w K mg base 3 C "index" (spMIndex C)) : FnOk P w K mg base CX0 4 f fd ["self", "name"] (spMClock C) := by
  refine F.ok scMClock (fun vs H Q E h => ?_) (fun cdv A outer s H vs Q E hr h => ?_)
  · obtain ⟨a, ps, rs, i, p, rfl, _⟩ := h
    rfl
  · obtain ⟨a, ps, rs, i, p, rfl, net, nd, ix, k⟩ := h
    refine ⟨_, (pss_one (ps_ret (pe_slice sl_tup (pe_ix ix_tup (pe_fld (pv 0) (by rfl)) (pe_m cn.cls index hr (by decide) (pv 0) (pa_cons (pv 1) pa_nil)) (fun _ _ => rfl)) (po_some pe_int) po_none))), ?_⟩
    obtain ⟨dx, PA, RA, DA, as, bs, h1, h2, h3, h4, h5, h6⟩ := net.ex
    obtain ⟨hi, e⟩ := List.getElem?_eq_some_iff.mp ix
    have hia : i < as.length := by rw [h5.1]; exact hi
    have pa := h5.2 i _ _ (List.getElem?_eq_getElem hia) ix
    have nm : (namesOf ps)[i]? = some p.1 := by
      show (ps.map (·.1))[i]? = _
      rw [List.getElem?_map, ix]
      rfl
    refine ⟨_, rfl, a, C, dx, _, _, rfl, h1, cn.cls, cn.n1, look_p, ?_⟩
    refine ⟨_, rfl, a, dx, _, rfl, h1, look_no (by decide +kernel) (by decide +kernel) (by decide +kernel), _, rfl, a, ps, rs, i, p.1, rfl, net, nd, nm, ?_⟩
    refine ⟨PA, _, _, _, rfl, rfl, SqT.of h2, atN (i := i) (by rw [List.getElem?_map, List.getElem?_eq_getElem hia]; rfl), ?_⟩
    refine ⟨_, rfl, as[i], _, rfl, SqT.of pa, (by show ¬ (HT.sIx 3 0 (some 1) = 0 ∧ HT.sIx 3 3 none = 3); decide), fun u nu => ?_⟩
    exact k u _ (same_new nu) upd_same
theorem scRNum : FnScope ["self", "point", "last"] ["self", "point"] (defScope sRNum) := ⟨rfl, rfl, rfl, by decide +kernel, rfl, by decide +kernel, by decide +kernel⟩
theorem ok_rnum (F : Fun K "_number" "Rising._number" sRNum f fd) (cr : ClsR K CR) : FnOk P w K mg base CX0 1 f fd ["self", "point"] (spRNum CR) := by
  refine F.ok scRNum (fun vs H Q E h => ?_) (fun cdv A outer s H vs Q E hr h => ?_)
  · obtain ⟨a, NA, CA, RA, SA, LA, ps, ri, rs, la, p, i, r, rfl, _⟩ := h
    rfl
  · obtain ⟨a, NA, CA, RA, SA, LA, ps, ri, rs, la, p, i, r, rfl, ris, hp, hi, k⟩ := h
    refine ⟨_, (pss_cons (ps_set (i := 2) scRNum.nd rfl (.inl rfl) (pe_ix ix_list (pe_fld (pv 0) (by rfl)) (pv 1) (fun _ _ => rfl)))
      (pss_one (ps_ret (pe_ifExp (pt_cmpR op_isN (pv 2) pe_non (nomark _)) pe_non (pe_ix ix_tup (pe_ix ix_list (pe_fld (pv 0) (by rfl)) (pv 2) (fun _ _ => rfl)) pe_int (fun _ _ => rfl)))))), ?_⟩
    obtain ⟨dx, h1⟩ := ris.at_
    obtain ⟨ss, hs, row⟩ := ris.ra
    have il : i < ss.length := by rw [row.1]; exact (List.getElem?_eq_some_iff.mp hi).1
    have hsi := List.getElem?_eq_getElem il
    refine ⟨_, rfl, a, CR, dx, _, _, rfl, h1, cr.cls, cr.n6, lk6, _, rfl, LA, _, _, _, rfl, rfl, SqL.of ris.la, atN (i := p) (by rw [List.getElem?_map, hp]; rfl), ?_⟩
    refine ⟨_, rfl, rfl, _, rfl, iteF ?_⟩
    refine ⟨_, rfl, a, CR, dx, _, _, rfl, h1, cr.cls, cr.n5, lk5, _, rfl, SA, _, _, _, rfl, rfl, SqL.of hs, atN (i := i) (by rw [List.getElem?_map, hsi]; rfl), ss[i], _, 1, _, rfl, rfl, SqT.of (row.2 i _ _ hsi hi), rfl, ?_⟩
    exact k
theorem scFol : FnScope ["self", "rule", "start", "end", "least", "cause", "number", "had"] ["self", "rule"] (defScope sFol) := ⟨rfl, rfl, rfl, by decide +kernel, rfl, by decide +kernel, by decide +kernel⟩
theorem ok_fol (F : Fun K "_follow" "Rising._follow" sFol f fd) (T : Wds mg) (cr : ClsR K CR) (fUp : Cf P w K mg base 1 "up" spPUp) (mNum : Md P w K mg base 1 CR "_number" (spRNum CR)) : FnOk P w K mg base CX0 2 f fd ["self", "rule"] (spFol CR) := by
  refine F.ok scFol (fun vs H Q E h => ?_) (fun cdv A outer s H vs Q E hr h => ?_)
  · obtain ⟨a, NA, CA, RA, SA, LA, ps, ri, rs, la, k, i, j, ci, cj, l, r1, r2, pj, rfl, _⟩ := h
    rfl
  · obtain ⟨a, NA, CA, RA, SA, LA, ps, ri, rs, la, k, i, j, ci, cj, l, r1, r2, pj, rfl, ris, hk, hi, h1c, hj, h2c, hpj, s0, few, kF, kT⟩ := h
    refine ⟨_, (pss_cons (ps_asg (pe_ix ix_list (pe_fld (pv 0) (by rfl)) (pv 1) (fun _ _ => rfl)) (pg_tup (by rfl) (pgs_cons (pg_name (i := 2) scFol.nd rfl (.inl rfl)) (pgs_cons (pg_name (i := 3) scFol.nd rfl (.inl rfl)) (pgs_cons (pg_name (i := 4) scFol.nd rfl (.inl rfl)) pgs_nil)))))
      (pss_cons (ps_set (i := 5) scFol.nd rfl (.inl rfl) (pe_ix ix_list (pe_fld (pv 0) (by rfl)) (pv 2) (fun _ _ => rfl)))
      (pss_cons (ps_if (pt_cmpR op_isN (pv 5) pe_non (nomark _)) (pss_one (ps_ret pe_bl)) pss_nil)
      (pss_cons (ps_set (i := 6) scFol.nd rfl (.inl rfl) (pe_f fUp hr (by decide) (by rfl) (pa_cons (pe_ix ix_list (pe_fld (pv 0) (by rfl)) (pv 3) (fun _ _ => rfl)) (pa_cons (pe_op op_add (pe_ix ix_tup (pe_ix ix_list (pe_fld (pv 0) (by rfl)) (pv 5) (fun _ _ => rfl)) pe_int (fun _ _ => rfl)) (pv 4)) pa_nil))))
      (pss_cons (ps_set (i := 7) scFol.nd rfl (.inl rfl) (pe_m cr.cls mNum hr (by decide) (pv 0) (pa_cons (pv 3) pa_nil)))
      (pss_cons (ps_if (PW.pt (pw_and (pt_cmpR op_notN (pv 7) pe_non (nomark _)) (pw_and1 (pt_cmpR op_ge (pv 7) (pv 6) (nomark _))))) (pss_one (ps_ret pe_bl)) pss_nil)
      (pss_cons (ps_asg (pe_callB call_len_seq (by rfl) T.zlen (by decide +kernel) (pa_cons (pe_fld (pv 0) (by rfl)) pa_nil)) (pg_sub (pe_fld (pv 0) (by rfl)) (pv 3) set_list))
      (pss_cons (ps_expr (pe_bm PySem.F.plainAttrs_list PySem.F.slot_list_append PySem.F.type_list_append mt_append (pe_fld (pv 0) (by rfl)) (pa_cons (pe_tup (pa_cons (pv 3) (pa_cons (pv 6) (pa_cons (pv 1) (pa_cons (pv 5) (pa_cons (pe_op op_add (pe_ix ix_tup (pe_ix ix_list (pe_fld (pv 0) (by rfl)) (pv 5) (fun _ _ => rfl)) pe_int (fun _ _ => rfl)) pe_int) pa_nil)))))) pa_nil)))
      (pss_one (ps_ret pe_bl)))))))))), ?_⟩
    obtain ⟨dx, h1⟩ := ris.at_
    obtain ⟨cs, hcs, rowc⟩ := ris.ck
    obtain ⟨bs, hbs, rowb⟩ := ris.ru
    obtain ⟨ss, hss, row⟩ := ris.ra
    have kl : k < bs.length := by rw [rowb.1]; exact (List.getElem?_eq_some_iff.mp hk).1
    have cl : ci < ss.length := by rw [row.1]; exact (List.getElem?_eq_some_iff.mp h1c).1
    have jl : j < cs.length := by rw [rowc.1]; exact (List.getElem?_eq_some_iff.mp hpj).1
    have ek := List.getElem?_eq_getElem kl
    have ec := List.getElem?_eq_getElem cl
    have ej := List.getElem?_eq_getElem jl
    have hbk := rowb.2 k _ _ ek hk
    have hsc := row.2 ci _ _ ec h1c
    have hcj := rowc.2 j _ _ ej hpj
    have ssl : ss.length = rs.length := row.1
    refine ⟨_, rfl, a, CR, dx, _, _, rfl, h1, cr.cls, cr.n4, lk4, _, rfl, RA, _, _, _, rfl, rfl, SqL.of hbs, atN (i := k) (by rw [List.getElem?_map, ek]; rfl), bs[k], _, rfl, SqT.of hbk, rfl, _, _, rfl, _, _, rfl, _, _, rfl, rfl, ?_⟩
    refine ⟨_, rfl, a, CR, dx, _, _, rfl, h1, cr.cls, cr.n6, lk6, _, rfl, LA, _, _, _, rfl, rfl, SqL.of ris.la, atN (i := i) (by rw [List.getElem?_map, hi]; rfl), ?_⟩
    refine ⟨_, rfl, rfl, _, rfl, iteF ?_⟩
    -- number
    refine ⟨_, rfl, a, CR, dx, _, _, rfl, h1, cr.cls, cr.n3, lk3, _, rfl, CA, _, _, _, rfl, rfl, SqL.of hcs, atN (i := j) (by rw [List.getElem?_map, ej]; rfl), ?_⟩
    refine ⟨_, rfl, a, CR, dx, _, _, rfl, h1, cr.cls, cr.n5, lk5, _, rfl, SA, _, _, _, rfl, rfl, SqL.of hss, atN (i := ci) (by rw [List.getElem?_map, ec]; rfl), ss[ci], _, 1, _, rfl, rfl, SqT.of hsc, rfl, _, rfl, _, _, rfl, rfl, ?_⟩
    refine ⟨cs[j], pj.2.1, pj.2.2, r1.2.1 + l, rfl, hcj, s0, ?_⟩
    rw [up_eq s0]
    refine ⟨_, rfl, a, dx, _, rfl, h1, lk_no (by decide +kernel) (by decide +kernel) (by decide +kernel) (by decide +kernel) (by decide +kernel) (by decide +kernel), _, rfl, a, NA, CA, RA, SA, LA, ps, ri, rs, la, j, cj, r2, rfl, ris, hj, h2c, ?_⟩
    refine ⟨_, rfl, rfl, _, rfl, iteT ?_⟩
    refine ⟨_, rfl, _, rfl, _, _, rfl, rfl, _, rfl, ?_⟩
    by_cases le : upv pj.2.1 pj.2.2 (r1.2.1 + l) ≤ r2.2.1
    · rw [decide_eq_true (show r2.2.1 ≥ upv pj.2.1 pj.2.2 (r1.2.1 + l) from le)]
      exact iteT (kF le)
    rw [decide_eq_false (show ¬ r2.2.1 ≥ upv pj.2.1 pj.2.2 (r1.2.1 + l) from le)]
    refine iteF ?_
    have jla : j < la.length := (List.getElem?_eq_some_iff.mp hj).1
    refine ⟨_, rfl, a, CR, dx, _, _, rfl, h1, cr.cls, cr.n5, lk5, SA, _, rfl, .inl (SqL.of hss), _, rfl, a, CR, dx, _, _, rfl, h1, cr.cls, cr.n6, lk6, _, rfl, LA, la.map oV, (j : Nat), j, rfl, rfl, ris.la, ?_, ?_⟩
    · unfold ixN
      rw [if_pos (by first | omega | exact ⟨by omega, by rw [List.length_map]; omega⟩)]
      rw [if_pos (by rw [List.length_map]; omega)]
      simp
    have el : (la.map oV).set j (V.int (((ss.map V.ref).length : Nat) : Int)) = (la.set j (some rs.length)).map oV := by
      rw [List.map_set, List.length_map, ssl]
      rfl
    rw [el]
    have sL : Sb2 SA LA H (upd H LA (.lst ((la.set j (some rs.length)).map oV))) := fun b o e n m => by rw [upd_ne m]; exact e
    have h1' := sL _ _ h1 (ne_of h1 hss (by intro z; cases z)) (ne_of h1 ris.la (by intro z; cases z))
    have hss' : (upd H LA (.lst ((la.set j (some rs.length)).map oV))) SA = some (.lst (ss.map V.ref)) := by rw [upd_ne ris.d1]; exact hss
    have hsc' := sL _ _ hsc (ne_of hsc hss (by intro z; cases z)) (ne_of hsc ris.la (by intro z; cases z))
    refine ⟨_, rfl, a, CR, dx, _, _, rfl, h1', cr.cls, cr.n5, lk5, .inl ⟨rfl, _, SqL.of hss'⟩, ?_⟩
    refine ⟨_, rfl, _, rfl, _, rfl, _, rfl, _, rfl, a, CR, dx, _, _, rfl, h1', cr.cls, cr.n5, lk5, _, rfl, SA, _, _, _, rfl, rfl, SqL.of hss', atN (i := ci) (by rw [List.getElem?_map, ec]; rfl), ss[ci], _, 4, _, rfl, rfl, SqT.of hsc', rfl, _, _, rfl, rfl, (by show 5 ≤ sizeLine; decide), fun q nq => ?_⟩
    obtain ⟨ris2, sb2⟩ := ris.push (r := (j, upv pj.2.1 pj.2.2 (r1.2.1 + l), some k, some ci, r1.2.2.2.2 + 1)) (j := j) hss row nq
    have hss2 := (same_new (o := raV (j, upv pj.2.1 pj.2.2 (r1.2.1 + l), some k, some ci, r1.2.2.2.2 + 1)) nq) _ _ hss'
    refine ⟨SA, _, .ref q, rfl, rfl, hss2, ?_, ?_⟩
    · rw [List.length_map, ssl, sizeLine_eq]
      omega
    exact kT (by omega) _ sb2 ris2
theorem scRNums : FnScope ["self", "point"] ["self"] (defScope sRNums) := ⟨rfl, rfl, rfl, by decide +kernel, rfl, by decide +kernel, by decide +kernel⟩
theorem ok_rnums (F : Fun K "numbers" "Rising.numbers" sRNums f fd) (T : Wds mg) (zrange : mg "range" = none) (cr : ClsR K CR) (mNum : Md P w K mg base 1 CR "_number" (spRNum CR)) : FnOk P w K mg base CX0 2 f fd ["self"] (spRNums CR) := by
  refine F.ok scRNums (fun vs H Q E h => ?_) (fun cdv A outer s H vs Q E hr h => ?_)
  · obtain ⟨a, NA, CA, RA, SA, LA, ps, ri, rs, la, xs, rfl, _⟩ := h
    rfl
  · obtain ⟨a, NA, CA, RA, SA, LA, ps, ri, rs, la, xs, rfl, ris, len, few, at_, k⟩ := h
    refine ⟨_, (pss_one (ps_ret (pe_callTy call_tuple_of (by rfl) T.ztuple (by decide +kernel) (pa_cons (pe_lc (own := [("point", 1)]) (by rfl) scRNums.nd (pi_range1 (by rfl) zrange (pa_cons (pe_callB call_len_seq (by rfl) T.zlen (by decide +kernel) (pa_cons (pe_fld (pv 0) (by rfl)) pa_nil)) pa_nil)) (blkOk_by (N := ["self", "point"]) (sc := defScope sRNums) (by decide +kernel)) (fun _ _ _ _ _ => (pg_name (i := 1) scRNums.nd rfl (.inl rfl))) (fun _ _ _ _ _ => pts_nil) (fun _ _ _ _ _ => (pe_m cr.cls mNum hr (by decide) (pv 0) (pa_cons (pv 1) pa_nil)))) pa_nil)))), ?_⟩
    obtain ⟨dx, h1⟩ := ris.at_
    have nl : ((namesOf ps).map V.str).length = xs.length := by rw [List.length_map, len]; exact List.length_map ..
    refine ⟨_, rfl, a, CR, dx, _, _, rfl, h1, cr.cls, cr.n1, lk1, NA, _, rfl, .inl (SqL.of ris.nm), (((namesOf ps).map V.str).length : Int), rfl, by omega, by omega, fun D nD => ?_⟩
    rw [nl]
    refine lc_range (lo := 0) (n := xs.length) (fun i H1 => Same H H1 ∧ H1 D = some (.lst ((xs.take i).map V.int))) ⟨same_new nD, upd_same⟩ ?_ ?_
    · rintro i H1 hi ⟨s1, hD⟩
      have ex := List.getElem?_eq_getElem hi
      obtain ⟨ci, r, e1, e2, e3⟩ := at_ i _ ex
      refine ⟨rfl, _, rfl, a, dx, _, rfl, s1 _ _ h1, lk_no (by decide +kernel) (by decide +kernel) (by decide +kernel) (by decide +kernel) (by decide +kernel) (by decide +kernel), _, rfl, a, NA, CA, RA, SA, LA, ps, ri, rs, la, i, ci, r, by rw [Int.zero_add]; rfl, ris.same s1, e1, e2, ?_⟩
      rw [e3]
      refine ⟨_, hD, small1000 (by rw [List.length_map, List.length_take]; omega), fun b o z => by rw [upd_ne (ne_of_none z nD)]; exact s1 b o z, ?_⟩
      rw [upd_same, List.take_succ, ex, List.map_append]
      rfl
    · rintro H1 ⟨s1, hD⟩
      rw [List.take_length] at hD
      exact ⟨D, _, rfl, .inl ⟨SqL.of hD, fun t nt => k t _ (s1.trans (same_new nt)) upd_same⟩⟩
end
end K14
namespace K14
open PySem PySem.Spec L2 Rt
open PyProof.Rows hiding St
/-! ### the rules by place -/
def idx (ps : List Pt) (x : Str) : Nat := (namesOf ps).idxOf x
def riOf (ps : List Pt) (rs : List Rl) : List (Nat × Nat × Int) := rs.map fun r => (idx ps r.1, idx ps r.2.1, r.2.2)
theorem idx_at {ps : List Pt} {x : Str} (h : x ∈ namesOf ps) : (namesOf ps)[idx ps x]? = some x := by
  have l : (namesOf ps).idxOf x < (namesOf ps).length := List.idxOf_lt_length_of_mem h
  unfold idx
  rw [List.getElem?_eq_getElem l, List.getElem_idxOf]
theorem idx_lt {ps : List Pt} {x : Str} (h : x ∈ namesOf ps) : idx ps x < ps.length := by
  have l : (namesOf ps).idxOf x < (namesOf ps).length := List.idxOf_lt_length_of_mem h
  rw [List.length_map] at l
  exact l
/-- where a rising starts: each point at its own raise -/
def startR (ps : List Pt) (fs : List Int) (p : Nat) : RT := (p, upv (fN ps p) (sN ps p) (xN fs p), none, none, 0)
theorem enumR_of {K : PySem.W.Frag} {R : It → Hp → Prop} {p : Addr} {H : Hp} {xs : List V} (h : Row2 H p xs) (f : ∀ (J : It) (G : Hp → Prop), Walk J xs.length G (YPair (fun i => some (.int (i : Nat))) (fun i => xs[i]?)) → (∀ H', H' p = H p → G H') → R J H) : enumR K R p H := by
  rcases h with h | h
  · exact .inl ⟨⟨xs, SqL.of h⟩, f _ _ walk_enum fun H' s => SqL.of (s.trans h)⟩
  · exact .inr ⟨⟨xs, SqT.of h⟩, f _ _ walk_enumT fun H' s => SqT.of (s.trans h)⟩
theorem net_but {H H' : Hp} {C CR a dx n : Addr} {ps : List Pt} {rs : List Rl} (net : NetAt H C n ps rs) (ha : H a = some (.ins CR dx [])) (b : Sbut a H H') : NetAt H' C n ps rs := by
  obtain ⟨dn, PA, RA, DA, as, bs, h1, h2, h3, h4, h5, h6⟩ := net.ex
  exact ⟨dn, PA, RA, DA, as, bs, b _ _ h1 (ne_of h1 ha (by intro z; cases z)), b _ _ h2 (ne_of h2 ha (by intro z; cases z)), b _ _ h3 (ne_of h3 ha (by intro z; cases z)), b _ _ h4 (ne_of h4 ha (by intro z; cases z)),
    h5.but b (row_not h5 ha (fun p z => by cases z)), h6.but b (row_not h6 ha (fun p z => by cases z))⟩
theorem none_but {a q : Addr} {H H' : Hp} (b : Sbut a H H') (ne : q ≠ a) (n : H' q = none) : H q = none := by
  cases e : H q with
  | none => rfl
  | some o =>
    rw [b _ _ e ne] at n
    cases n
def lastI (n i : Nat) : List (Option Nat) := (List.range n).map fun j => if j < i then some j else none
theorem lastI_step {n i : Nat} (h : i < n) : (lastI n i).set i (some i) = lastI n (i + 1) := by
  unfold lastI
  refine List.ext_getElem? fun m => ?_
  rw [List.getElem?_set, List.length_map, List.length_range, List.getElem?_map, List.getElem?_map]
  by_cases e : i = m
  · subst e
    rw [if_pos rfl, if_pos h, List.getElem?_range h]
    simp
  · rw [if_neg e]
    by_cases l : m < n
    · rw [List.getElem?_range l]
      simp only [Option.map_some]
      congr 1
      by_cases c : m < i
      · rw [if_pos c, if_pos (by omega)]
      · rw [if_neg c, if_neg (by omega)]
    · rw [List.getElem?_eq_none (by rw [List.length_range]; omega)]
      rfl
theorem lastI_all (n : Nat) : lastI n n = (List.range n).map some := by
  unfold lastI
  refine List.map_congr_left fun j m => ?_
  rw [if_pos (List.mem_range.mp m)]
theorem row2_ne {fl q : Addr} {H : Hp} {xs : List V} (h : Row2 H fl xs) (n : H q = none) : fl ≠ q := by
  rcases h with h | h
  · exact ne_of_none h n
  · exact ne_of_none h n
theorem rep_non : ∀ n : Nat, (List.replicate n [V.non]).flatten = ((List.range n).map fun j => if j < 0 then some j else (none : Option Nat)).map oV := fun n => by
  have e : ((List.range n).map fun j => if j < 0 then some j else (none : Option Nat)) = List.replicate n none := by
    rw [List.eq_replicate_iff]
    refine ⟨by rw [List.length_map, List.length_range], fun b m => ?_⟩
    obtain ⟨j, _, rfl⟩ := List.mem_map.mp m
    exact if_neg (by omega)
  rw [e, List.map_replicate]
  show _ = List.replicate n V.non
  induction n with
  | zero => rfl
  | succ n ih =>
    rw [List.replicate_succ, List.flatten_cons, List.replicate_succ]
    rw [ih (by
      rw [List.eq_replicate_iff]
      refine ⟨by rw [List.length_map, List.length_range], fun b m => ?_⟩
      obtain ⟨j, _, rfl⟩ := List.mem_map.mp m
      exact if_neg (by omega))]
    rfl
theorem row2_but {a fl CR dx : Addr} {H H' : Hp} {xs : List V} (h : Row2 H fl xs) (ha : H a = some (.ins CR dx [])) (b : Sbut a H H') : Row2 H' fl xs := by
  rcases h with h | h
  · exact .inl (b _ _ h (ne_of h ha (by intro z; cases z)))
  · exact .inr (b _ _ h (ne_of h ha (by intro z; cases z)))
def spRInit (C CR : Addr) : Sp := fun vs H Q _ => ∃ (a dx n fl : Addr) (ps : List Pt) (rs : List Rl) (fs : List Int) (M : Nat), vs = [.ref a, .ref n, .ref fl] ∧ H a = some (.ins CR dx []) ∧ NetAt H C n ps rs ∧ Good ps rs ∧ (∀ p, p ∈ ps → 1 ≤ p.2.2 ∧ p.2.2.toNat ∣ M) ∧ 0 < M ∧ M < 2 ^ 60 ∧ Row2 H fl (fs.map V.int) ∧ fs.length = ps.length ∧
  ∀ (H' : Hp) (NA CA RA SA LA : Addr), Sbut a H H' → H SA = none → H LA = none → RisAt H' CR a NA CA RA SA LA ps (riOf ps rs) ((List.range ps.length).map (startR ps fs)) ((List.range ps.length).map some) → Q .non H'

section
variable {P : Program} {w : World} {K : PySem.W.Frag} {mg : Str → Option Value} {base : Heap} {f C CR : Addr} {fd : FuncData}

theorem scRInit : FnScope ["self", "network", "floors", "point", "floor", "name", "start", "end", "least"] ["self", "network", "floors"] (defScope sRInit) := ⟨rfl, rfl, rfl, by decide +kernel, rfl, by decide +kernel, by decide +kernel⟩
theorem ok_rinit (F : Fun K "__init__" "Rising.__init__" sRInit f fd) (T : Wds mg) (cn : ClsN K C) (M : Meths P w K mg base C) (mCk : Md P w K mg base 4 C "clock" (spMClock C)) (cr : ClsR K CR) (fUp : Cf P w K mg base 1 "up" spPUp) : FnOk P w K mg base CX0 5 f fd ["self", "network", "floors"] (spRInit C CR) := by
  refine F.ok scRInit (fun vs H Q E h => ?_) (fun cdv A outer s H vs Q E hr h => ?_)
  · obtain ⟨a, dx, n, fl, ps, rs, fs, MM, rfl, _⟩ := h
    rfl
  · obtain ⟨a, dx, n, fl, ps, rs, fs, MM, rfl, ha, net, good, dv, m0, m1, hfl, flen, k⟩ := h
    refine ⟨_, (pss_cons (ps_fld (pv 0) (pe_m0' cn.cls M.names hr (by decide) (pv 1)) (by rfl))
      (pss_cons (ps_fld (pv 0) (pe_m0' cn.cls M.period hr (by decide) (pv 1)) (by rfl))
      (pss_cons (ps_fld (pv 0) (pe_lc (own := [("name", 5)]) (by rfl) scRInit.nd (pi_list (pe_fld (pv 0) (by rfl))) (blkOk_by (N := ["self", "network", "floors", "point", "floor", "name", "start", "end", "least"]) (sc := defScope sRInit) (by decide +kernel)) (fun _ _ _ _ _ => (pg_name (i := 5) scRInit.nd rfl (.inl rfl))) (fun _ _ _ _ _ => pts_nil) (fun _ _ _ _ _ => (pe_m cn.cls mCk hr (by decide) (pv 1) (pa_cons (pv 5) pa_nil)))) (by rfl))
      (pss_cons (ps_fld (pv 0) (pe_lc (own := [("start", 6), ("end", 7), ("least", 8)]) (by rfl) scRInit.nd (pi_list (pe_m0' cn.cls M.rules hr (by decide) (pv 1))) (blkOk_by (N := ["self", "network", "floors", "point", "floor", "name", "start", "end", "least"]) (sc := defScope sRInit) (by decide +kernel)) (fun _ _ _ _ _ => (pg_tk (K := K) (n := 3) rfl (by rfl) (pgs_cons (pg_name (i := 6) scRInit.nd rfl (.inl rfl)) (pgs_cons (pg_name (i := 7) scRInit.nd rfl (.inl rfl)) (pgs_cons (pg_name (i := 8) scRInit.nd rfl (.inl rfl)) pgs_nil))) (by rfl) (by rfl))) (fun _ _ _ _ _ => pts_nil) (fun _ _ _ _ _ => (pe_tup (pa_cons (pe_m cn.cls M.index hr (by decide) (pv 1) (pa_cons (pv 6) pa_nil)) (pa_cons (pe_m cn.cls M.index hr (by decide) (pv 1) (pa_cons (pv 7) pa_nil)) (pa_cons (pv 8) pa_nil)))))) (by rfl))
      (pss_cons (ps_fld (pv 0) (pe_lst pa_nil) (by rfl))
      (pss_cons (ps_fld (pv 0) (pe_op op_rep (pe_lst (pa_cons pe_non pa_nil)) (pe_callB call_len_seq (by rfl) T.zlen (by decide +kernel) (pa_cons (pe_fld (pv 0) (by rfl)) pa_nil))) (by rfl))
      (pss_one (ps_for PassesOwn.never rfl (pi_enumS (by rfl) T.zenumerate (pa_cons (pv 2) pa_nil)) (pg_tup (by rfl) (pgs_cons (pg_name (i := 3) scRInit.nd rfl (.inl rfl)) (pgs_cons (pg_name (i := 4) scRInit.nd rfl (.inl rfl)) pgs_nil)))
        (pss_one (ps_if (pt_cmpR op_notN (pv 4) pe_non (nomark _)) (pss_cons (ps_asg (pe_callB call_len_seq (by rfl) T.zlen (by decide +kernel) (pa_cons (pe_fld (pv 0) (by rfl)) pa_nil)) (pg_sub (pe_fld (pv 0) (by rfl)) (pv 3) set_list))
          (pss_one (ps_expr (pe_bm PySem.F.plainAttrs_list PySem.F.slot_list_append PySem.F.type_list_append mt_append (pe_fld (pv 0) (by rfl)) (pa_cons (pe_tup (pa_cons (pv 3) (pa_cons (pe_f fUp hr (by decide) (by rfl) (pa_cons (pe_ix ix_list (pe_fld (pv 0) (by rfl)) (pv 3) (fun _ _ => rfl)) (pa_cons (pv 4) pa_nil))) (pa_cons pe_non (pa_cons pe_non (pa_cons pe_int pa_nil)))))) pa_nil))))) pss_nil)))))))))), ?_⟩
    obtain ⟨dn, fsn, hN, look⟩ := net_look net
    have na : n ≠ a := fun z => by
      subst z
      rw [ha] at hN
      cases hN
      obtain ⟨dx2, PA, RA, DA, as, bs, h1, _⟩ := net.ex
      rw [ha] at h1
      cases h1
    have netB : ∀ {H' : Hp}, Sbut a H H' → NetAt H' C n ps rs := fun {H'} b => net_but net ha b
    refine ⟨_, rfl, n, dn, fsn, rfl, hN, look _ (by decide +kernel) (by decide +kernel) (by decide +kernel), n, ps, rs, rfl, net, good.few, fun NA H1 nNA s1 hNA => ?_⟩
    have NAa : NA ≠ a := (ne_of_none ha nNA).symm
    refine ⟨_, rfl, a, CR, dx, [], rfl, s1 _ _ ha, cr.cls, cr.n1, (by decide : 0 < 1000), ?_⟩
    rw [show putF "_names" (V.ref NA) [] = [(("_names" : Str), V.ref NA)] from rfl]
    have b2 : Sbut a H (upd H1 a (.ins CR dx [("_names", .ref NA)])) := (Sbut.of s1).trans Sbut.put
    have ha2 : (upd H1 a (.ins CR dx [("_names", .ref NA)])) a = some (.ins CR dx [("_names", .ref NA)]) := upd_same
    have hNA2 : (upd H1 a (.ins CR dx [("_names", .ref NA)])) NA = some (.lst ((namesOf ps).map V.str)) := by rw [upd_ne NAa]; exact hNA
    revert b2 ha2 hNA2
    generalize upd H1 a (.ins CR dx [("_names", .ref NA)]) = H2
    intro b2 ha2 hNA2
    clear hNA s1
    -- period
    refine ⟨_, rfl, n, dn, fsn, rfl, b2 _ _ hN na, look _ (by decide +kernel) (by decide +kernel) (by decide +kernel), n, ps, rs, MM, rfl, netB b2, dv, m0, m1, ?_⟩
    refine ⟨_, rfl, a, CR, dx, _, rfl, ha2, cr.cls, cr.n2, (by show 1 < 1000; decide), ?_⟩
    rw [pt2]
    have b3 : Sbut a H (upd H2 a (.ins CR dx [("_names", .ref NA), ("_period", .int (lcmOf ps))])) := b2.trans Sbut.put
    have ha3 : (upd H2 a (.ins CR dx [("_names", .ref NA), ("_period", .int (lcmOf ps))])) a = some (.ins CR dx [("_names", .ref NA), ("_period", .int (lcmOf ps))]) := upd_same
    have hNA3 : (upd H2 a (.ins CR dx [("_names", .ref NA), ("_period", .int (lcmOf ps))])) NA = some (.lst ((namesOf ps).map V.str)) := by rw [upd_ne NAa]; exact hNA2
    revert b3 ha3 hNA3
    generalize upd H2 a (.ins CR dx [("_names", .ref NA), ("_period", .int (lcmOf ps))]) = H3
    intro b3 ha3 hNA3
    clear b2 ha2 hNA2
    -- clocks
    refine ⟨_, rfl, a, CR, dx, _, _, rfl, ha3, cr.cls, cr.n1, rfl, NA, rfl, ⟨_, SqL.of hNA3⟩, fun CA nCA => ?_⟩
    refine lc_it walk_list (fun i H4 => Same H3 H4 ∧ ∃ cs : List Addr, H4 CA = some (.lst (cs.map V.ref)) ∧ Row ckV H4 cs (ps.take i)) ⟨same_new nCA, [], upd_same, rfl, fun _ _ _ z => by cases z⟩ (fun i H4 _ z => SqL.of (z.1 _ _ hNA3)) ?_ ?_
    · rintro i y H4 H5 hi ⟨s4, cs, h4, row⟩ ⟨rfl, hy⟩
      have hi' : i < ps.length := by rw [List.length_map, List.length_map] at hi; exact hi
      have ep := List.getElem?_eq_getElem hi'
      obtain rfl : V.str ps[i].1 = y := by
        rw [List.getElem?_map, List.getElem?_map, ep] at hy
        exact Option.some.inj hy
      have b4 := b3.trans (Sbut.of s4)
      refine ⟨rfl, _, rfl, n, dn, fsn, rfl, b4 _ _ hN na, look _ (by decide +kernel) (by decide +kernel) (by decide +kernel), _, rfl, n, ps, rs, i, ps[i], rfl, netB b4, good.nd, ep, fun t H6 s6 ht => ?_⟩
      have h6 := s6 _ _ h4
      have row6 := row.same s6
      refine ⟨_, h6, small1000 (by rw [List.length_map, row.1, List.length_take]; have := good.few; omega), fun b o z => by rw [upd_ne (ne_of_none z nCA)]; exact (s4.trans s6) b o z, cs ++ [t], ?_, ?_⟩
      · rw [upd_same, List.map_append]
        rfl
      · rw [List.take_succ, ep]
        refine Row.snoc (row6.but (fun b o z ne => by rw [upd_ne ne]; exact z) (row_not row6 h6 (fun p z => by cases z))) ?_
        rw [upd_ne (ne_of ht h6 (by intro z; cases z))]
        exact ht
    rintro H4 ⟨s4, cs, hCA, rowC⟩
    rw [List.take_of_length_le (by rw [List.length_map, List.length_map]; exact Nat.le_refl _)] at rowC
    have b4 := b3.trans (Sbut.of s4)
    have ha4 := s4 _ _ ha3
    have hNA4 := s4 _ _ hNA3
    have CAa : CA ≠ a := ne_of hCA ha4 (by intro z; cases z)
    refine ⟨_, rfl, a, CR, dx, _, rfl, ha4, cr.cls, cr.n3, (by show 2 < 1000; decide), ?_⟩
    rw [pt3]
    have b5 : Sbut a H (upd H4 a (.ins CR dx [("_names", .ref NA), ("_period", .int (lcmOf ps)), ("_clocks", .ref CA)])) := b4.trans Sbut.put
    have ha5 : (upd H4 a (.ins CR dx [("_names", .ref NA), ("_period", .int (lcmOf ps)), ("_clocks", .ref CA)])) a = some (.ins CR dx [("_names", .ref NA), ("_period", .int (lcmOf ps)), ("_clocks", .ref CA)]) := upd_same
    have hNA5 : (upd H4 a (.ins CR dx [("_names", .ref NA), ("_period", .int (lcmOf ps)), ("_clocks", .ref CA)])) NA = some (.lst ((namesOf ps).map V.str)) := by rw [upd_ne NAa]; exact hNA4
    have hCA5 : (upd H4 a (.ins CR dx [("_names", .ref NA), ("_period", .int (lcmOf ps)), ("_clocks", .ref CA)])) CA = some (.lst (cs.map V.ref)) := by rw [upd_ne CAa]; exact hCA
    have rowC5 : Row ckV (upd H4 a (.ins CR dx [("_names", .ref NA), ("_period", .int (lcmOf ps)), ("_clocks", .ref CA)])) cs ps := rowC.but Sbut.put (row_not rowC ha4 (fun p z => by cases z))
    revert b5 ha5 hNA5 hCA5 rowC5
    generalize upd H4 a (.ins CR dx [("_names", .ref NA), ("_period", .int (lcmOf ps)), ("_clocks", .ref CA)]) = H5
    intro b5 ha5 hNA5 hCA5 rowC5
    clear rowC hCA hNA4 ha4 b4 s4 hNA3 ha3 b3
    -- rules
    refine ⟨_, rfl, n, dn, fsn, rfl, b5 _ _ hN na, look _ (by decide +kernel) (by decide +kernel) (by decide +kernel), n, ps, rs, rfl, netB b5, fun RL bs H6 nRL s6 hRL rowR => ?_⟩
    refine ⟨RL, rfl, ⟨_, SqL.of hRL⟩, fun RA nRA => ?_⟩
    refine lc_it walk_list (fun i H7 => Same H6 H7 ∧ ∃ qs : List Addr, H7 RA = some (.lst (qs.map V.ref)) ∧ Row ruV H7 qs ((riOf ps rs).take i)) ⟨same_new nRA, [], upd_same, rfl, fun _ _ _ z => by cases z⟩ (fun i H7 _ z => SqL.of (z.1 _ _ hRL)) ?_ ?_
    · rintro i y H7 H8 hi ⟨s7, qs, h7, row⟩ ⟨rfl, hy⟩
      have hi' : i < bs.length := by rw [List.length_map] at hi; exact hi
      have hir : i < rs.length := by rw [← rowR.1]; exact hi'
      have er := List.getElem?_eq_getElem hir
      obtain rfl : V.ref bs[i] = y := by
        rw [List.getElem?_map, List.getElem?_eq_getElem hi'] at hy
        exact Option.some.inj hy
      have pb := s7 _ _ (rowR.2 i _ _ (List.getElem?_eq_getElem hi') er)
      have b7 := (b5.trans (Sbut.of s6)).trans (Sbut.of s7)
      obtain ⟨m1', m2'⟩ := good.ends rs[i] (List.getElem_mem hir)
      refine ⟨bs[i], _, rfl, SqT.of pb, rfl, _, _, rfl, _, _, rfl, _, _, rfl, rfl, rfl, ?_⟩
      refine ⟨_, rfl, n, dn, fsn, rfl, b7 _ _ hN na, look _ (by decide +kernel) (by decide +kernel) (by decide +kernel), _, rfl, n, ps, rs, idx ps rs[i].1, rs[i].1, rfl, netB b7, good.nd, idx_at m1', ?_⟩
      refine ⟨_, rfl, n, dn, fsn, rfl, b7 _ _ hN na, look _ (by decide +kernel) (by decide +kernel) (by decide +kernel), _, rfl, n, ps, rs, idx ps rs[i].2.1, rs[i].2.1, rfl, netB b7, good.nd, idx_at m2', ?_⟩
      refine ⟨_, rfl, (by show 3 ≤ sizeLine; decide), fun q nq => ?_⟩
      have eri : (riOf ps rs)[i]? = some (idx ps rs[i].1, idx ps rs[i].2.1, rs[i].2.2) := by
        show (rs.map _)[i]? = _
        rw [List.getElem?_map, er]
        rfl
      have s8 := same_new (o := ruV (idx ps rs[i].1, idx ps rs[i].2.1, rs[i].2.2)) nq
      have h8 := s8 _ _ h7
      have row8 := row.same s8
      refine ⟨_, h8, small1000 (by rw [List.length_map, row.1, List.length_take, show (riOf ps rs).length = rs.length from List.length_map ..]; have := good.fewR; omega), fun b o z => by rw [upd_ne (ne_of_none z nRA)]; exact (s7.trans s8) b o z, qs ++ [q], ?_, ?_⟩
      · rw [upd_same, List.map_append]
        rfl
      · rw [List.take_succ, eri]
        refine Row.snoc (row8.but (fun b o z ne => by rw [upd_ne ne]; exact z) (row_not row8 h8 (fun p z => by cases z))) ?_
        rw [upd_ne (ne_of_none h7 nq).symm, upd_same]
        rfl
    rintro H7 ⟨s7, qs, hRA, rowU⟩
    rw [List.take_of_length_le (by rw [List.length_map, rowR.1]; exact Nat.le_of_eq (List.length_map ..))] at rowU
    have s67 := s6.trans s7
    have b7 := b5.trans (Sbut.of s67)
    have ha7 := s67 _ _ ha5
    have hNA7 := s67 _ _ hNA5
    have hCA7 := s67 _ _ hCA5
    have rowC7 := rowC5.same s67
    have RAa : RA ≠ a := ne_of hRA ha7 (by intro z; cases z)
    refine ⟨_, rfl, a, CR, dx, _, rfl, ha7, cr.cls, cr.n4, (by show 3 < 1000; decide), ?_⟩
    rw [pt4]
    have b8 : Sbut a H (upd H7 a (.ins CR dx [("_names", .ref NA), ("_period", .int (lcmOf ps)), ("_clocks", .ref CA), ("_rules", .ref RA)])) := b7.trans Sbut.put
    have ha8 : (upd H7 a (.ins CR dx [("_names", .ref NA), ("_period", .int (lcmOf ps)), ("_clocks", .ref CA), ("_rules", .ref RA)])) a = some (.ins CR dx [("_names", .ref NA), ("_period", .int (lcmOf ps)), ("_clocks", .ref CA), ("_rules", .ref RA)]) := upd_same
    have hNA8 : (upd H7 a (.ins CR dx [("_names", .ref NA), ("_period", .int (lcmOf ps)), ("_clocks", .ref CA), ("_rules", .ref RA)])) NA = some (.lst ((namesOf ps).map V.str)) := by rw [upd_ne NAa]; exact hNA7
    have hCA8 : (upd H7 a (.ins CR dx [("_names", .ref NA), ("_period", .int (lcmOf ps)), ("_clocks", .ref CA), ("_rules", .ref RA)])) CA = some (.lst (cs.map V.ref)) := by rw [upd_ne CAa]; exact hCA7
    have hRA8 : (upd H7 a (.ins CR dx [("_names", .ref NA), ("_period", .int (lcmOf ps)), ("_clocks", .ref CA), ("_rules", .ref RA)])) RA = some (.lst (qs.map V.ref)) := by rw [upd_ne RAa]; exact hRA
    have rowC8 : Row ckV (upd H7 a (.ins CR dx [("_names", .ref NA), ("_period", .int (lcmOf ps)), ("_clocks", .ref CA), ("_rules", .ref RA)])) cs ps := rowC7.but Sbut.put (row_not rowC7 ha7 (fun p z => by cases z))
    have rowU8 : Row ruV (upd H7 a (.ins CR dx [("_names", .ref NA), ("_period", .int (lcmOf ps)), ("_clocks", .ref CA), ("_rules", .ref RA)])) qs (riOf ps rs) := rowU.but Sbut.put (row_not rowU ha7 (fun p z => by cases z))
    revert b8 ha8 hNA8 hCA8 hRA8 rowC8 rowU8
    generalize upd H7 a (.ins CR dx [("_names", .ref NA), ("_period", .int (lcmOf ps)), ("_clocks", .ref CA), ("_rules", .ref RA)]) = H8
    intro b8 ha8 hNA8 hCA8 hRA8 rowC8 rowU8
    clear rowU rowC7 hCA7 hNA7 ha7 b7 s67 hRA s7 rowR hRL s6 rowC5 hCA5 hNA5 ha5 b5
    refine ⟨Nat.zero_le _, fun SA nSA => ?_⟩
    have SAa : SA ≠ a := (ne_of_none ha8 nSA).symm
    refine ⟨_, rfl, a, CR, dx, _, rfl, (same_new nSA) _ _ ha8, cr.cls, cr.n5, (by show 4 < 1000; decide), ?_⟩
    rw [pt5]
    have b9 : Sbut a H8 (upd (upd H8 SA (.lst [])) a (.ins CR dx [("_names", .ref NA), ("_period", .int (lcmOf ps)), ("_clocks", .ref CA), ("_rules", .ref RA), ("_raises", .ref SA)])) := (Sbut.of (same_new nSA)).trans Sbut.put
    have ha9 : (upd (upd H8 SA (.lst [])) a (.ins CR dx [("_names", .ref NA), ("_period", .int (lcmOf ps)), ("_clocks", .ref CA), ("_rules", .ref RA), ("_raises", .ref SA)])) a = some (.ins CR dx [("_names", .ref NA), ("_period", .int (lcmOf ps)), ("_clocks", .ref CA), ("_rules", .ref RA), ("_raises", .ref SA)]) := upd_same
    have hSA9 : (upd (upd H8 SA (.lst [])) a (.ins CR dx [("_names", .ref NA), ("_period", .int (lcmOf ps)), ("_clocks", .ref CA), ("_rules", .ref RA), ("_raises", .ref SA)])) SA = some (.lst []) := by rw [upd_ne SAa, upd_same]
    revert b9 ha9 hSA9
    generalize upd (upd H8 SA (.lst [])) a (.ins CR dx [("_names", .ref NA), ("_period", .int (lcmOf ps)), ("_clocks", .ref CA), ("_rules", .ref RA), ("_raises", .ref SA)]) = H9
    intro b9 ha9 hSA9
    have hNA9 := b9 _ _ hNA8 NAa
    have hCA9 := b9 _ _ hCA8 CAa
    have hRA9 := b9 _ _ hRA8 RAa
    have rowC9 := rowC8.but b9 (row_not rowC8 ha8 (fun p z => by cases z))
    have rowU9 := rowU8.but b9 (row_not rowU8 ha8 (fun p z => by cases z))
    have t9 := b8.trans b9
    have nSA0 : H SA = none := none_but b8 SAa nSA
    refine ⟨(by show 1 ≤ sizeLine; decide), fun P0 nP0 => ?_⟩
    refine ⟨_, rfl, a, CR, dx, _, _, rfl, (same_new nP0) _ _ ha9, cr.cls, cr.n1, rfl, ?_⟩
    have nl : ((namesOf ps).map V.str).length = ps.length := by rw [List.length_map]; exact List.length_map ..
    refine ⟨NA, _, rfl, .inl (SqL.of ((same_new nP0) _ _ hNA9)), ?_⟩
    rw [nl]
    refine ⟨P0, (ps.length : Nat), [.non], rfl, rfl, upd_same, by omega, by have := good.few; omega, ?_, fun LA nLA => ?_⟩
    · show 1 * ps.length ≤ sizeLine
      rw [sizeLine_eq]
      have := good.few
      omega
    have rep : (List.replicate ((ps.length : Nat) : Int).toNat [V.non]).flatten = ((List.range ps.length).map fun j => if j < 0 then some j else (none : Option Nat)).map oV := by
      rw [Int.toNat_natCast]
      exact rep_non ps.length
    rw [rep]
    have sLA := (same_new (o := .lst [.non]) nP0).trans (same_new (o := .lst (((List.range ps.length).map fun j => if j < 0 then some j else (none : Option Nat)).map oV)) nLA)
    have LAa : LA ≠ a := ne_of_none (by exact ha9) (by
      cases e : H9 LA with
      | none => rfl
      | some o => rw [(same_new nP0) _ _ e] at nLA; cases nLA) |>.symm
    have nLA9 : H9 LA = none := by
      cases e : H9 LA with
      | none => rfl
      | some o => rw [(same_new nP0) _ _ e] at nLA; cases nLA
    have SL : SA ≠ LA := ne_of_none hSA9 nLA9
    have LA0 : H LA = none := none_but t9 LAa nLA9
    refine ⟨_, rfl, a, CR, dx, _, rfl, sLA _ _ ha9, cr.cls, cr.n6, (by show 5 < 1000; decide), ?_⟩
    rw [pt6]
    have hLA : (upd (upd H9 P0 (.lst [.non])) LA (.lst (((List.range ps.length).map fun j => if j < 0 then some j else (none : Option Nat)).map oV))) LA = some (.lst (((List.range ps.length).map fun j => if j < 0 then some j else (none : Option Nat)).map oV)) := upd_same
    revert sLA hLA
    generalize upd (upd H9 P0 (.lst [.non])) LA (.lst (((List.range ps.length).map fun j => if j < 0 then some j else (none : Option Nat)).map oV)) = H10
    intro sLA hLA
    have bA : Sbut a H9 (upd H10 a (.ins CR dx [("_names", .ref NA), ("_period", .int (lcmOf ps)), ("_clocks", .ref CA), ("_rules", .ref RA), ("_raises", .ref SA), ("_last", .ref LA)])) := (Sbut.of sLA).trans Sbut.put
    have haA : (upd H10 a (.ins CR dx [("_names", .ref NA), ("_period", .int (lcmOf ps)), ("_clocks", .ref CA), ("_rules", .ref RA), ("_raises", .ref SA), ("_last", .ref LA)])) a = some (.ins CR dx [("_names", .ref NA), ("_period", .int (lcmOf ps)), ("_clocks", .ref CA), ("_rules", .ref RA), ("_raises", .ref SA), ("_last", .ref LA)]) := upd_same
    have hLAA : (upd H10 a (.ins CR dx [("_names", .ref NA), ("_period", .int (lcmOf ps)), ("_clocks", .ref CA), ("_rules", .ref RA), ("_raises", .ref SA), ("_last", .ref LA)])) LA = some (.lst (((List.range ps.length).map fun j => if j < 0 then some j else (none : Option Nat)).map oV)) := by rw [upd_ne LAa]; exact hLA
    revert bA haA hLAA
    generalize upd H10 a (.ins CR dx [("_names", .ref NA), ("_period", .int (lcmOf ps)), ("_clocks", .ref CA), ("_rules", .ref RA), ("_raises", .ref SA), ("_last", .ref LA)]) = HA
    intro bA haA hLAA
    have tA := t9.trans bA
    have risA : RisAt HA CR a NA CA RA SA LA ps (riOf ps rs) [] ((List.range ps.length).map fun j => if j < 0 then some j else (none : Option Nat)) :=
      ⟨⟨dx, haA⟩, bA _ _ hNA9 NAa, ⟨cs, bA _ _ hCA9 CAa, rowC9.but bA (row_not rowC9 ha9 (fun p z => by cases z))⟩, ⟨qs, bA _ _ hRA9 RAa, rowU9.but bA (row_not rowU9 ha9 (fun p z => by cases z))⟩,
        ⟨[], bA _ _ hSA9 SAa, rfl, fun _ _ _ z => by cases z⟩, hLAA, SL, ⟨ne_of_none hNA8 nSA, ne_of_none hNA9 nLA9⟩, ⟨ne_of_none hCA8 nSA, ne_of_none hCA9 nLA9⟩, ⟨ne_of_none hRA8 nSA, ne_of_none hRA9 nLA9⟩⟩
    have hflA := row2_but hfl ha tA
    clear sLA hLA hLAA haA rowU9 rowC9 hRA9 hCA9 hNA9 nSA hSA9 ha9 b9 rowU8 rowC8 hRA8 hCA8 hNA8 ha8 b8
    -- the floors
    refine ⟨_, rfl, fl, rfl, enumR_of hflA fun J G wk hG => ?_⟩
    have fSA : fl ≠ SA := row2_ne hfl nSA0
    have fLA : fl ≠ LA := row2_ne hfl LA0
    have keepfl : ∀ H', Sb2 SA LA HA H' → H' fl = HA fl := fun H' sb => by
      rcases hflA with z | z
      · rw [sb _ _ z fSA fLA, z]
      · rw [sb _ _ z fSA fLA, z]
    have flen2 : (fs.map V.int).length = ps.length := by rw [List.length_map, flen]
    refine for_it wk (fun i σ H2 => ∃ (v3 v4 : Option V), σ = [some (.ref a), some (.ref n), some (.ref fl), v3, v4, none, none, none, none] ∧ Sb2 SA LA HA H2 ∧ RisAt H2 CR a NA CA RA SA LA ps (riOf ps rs) ((List.range i).map (startR ps fs)) (lastI ps.length i)) ⟨_, _, rfl, Sb2.refl, risA⟩ (fun i σ H2 _ ⟨_, _, _, sb, _⟩ => hG _ (keepfl _ sb)) ?_ ?_
    · rintro i y σ H2 H3 hi ⟨v3, v4, rfl, sb, ris⟩ ⟨t, x1, x2, rfl, ht, rfl, h1, h2⟩
      obtain rfl : V.int (i : Nat) = x1 := Option.some.inj h1
      have hip : i < ps.length := by rw [← flen2]; exact hi
      have hif : i < fs.length := by rw [flen]; exact hip
      have ex := List.getElem?_eq_getElem hif
      have ep := List.getElem?_eq_getElem hip
      obtain rfl : V.int fs[i] = x2 := by
        have h2 : (fs.map V.int)[i]? = some x2 := h2
        rw [List.getElem?_map, ex] at h2
        exact Option.some.inj h2
      have s3 := same_new (o := .tup [.int (i : Nat), .int fs[i]]) ht
      have ris3 := ris.same s3
      have hT : (upd H2 t (.tup [.int (i : Nat), .int fs[i]])) t = some (.tup [.int (i : Nat), .int fs[i]]) := upd_same
      have sb3 := sb.trans (Sb2.of s3)
      revert ris3 hT sb3
      generalize upd H2 t (.tup [.int (i : Nat), .int fs[i]]) = H3
      intro ris3 hT sb3
      refine ⟨t, _, rfl, SqT.of hT, rfl, _, _, rfl, _, _, rfl, rfl, ?_⟩
      refine ⟨_, rfl, rfl, _, rfl, iteT ?_⟩
      obtain ⟨dx, g1⟩ := ris3.at_
      obtain ⟨cs, hcs, rowc⟩ := ris3.ck
      obtain ⟨ss, hss, row⟩ := ris3.ra
      have il : i < cs.length := by rw [rowc.1]; exact hip
      have ec := List.getElem?_eq_getElem il
      have hci := rowc.2 i _ _ ec ep
      have ssl : ss.length = i := by rw [row.1, List.length_map, List.length_range]
      have lal : (lastI ps.length i).length = ps.length := by unfold lastI; rw [List.length_map, List.length_range]
      refine ⟨_, rfl, a, CR, dx, _, _, rfl, g1, cr.cls, cr.n5, lk5, SA, _, rfl, .inl (SqL.of hss), _, rfl, a, CR, dx, _, _, rfl, g1, cr.cls, cr.n6, lk6, _, rfl, LA, (lastI ps.length i).map oV, (i : Nat), i, rfl, rfl, ris3.la, ?_, ?_⟩
      · unfold ixN
        rw [if_pos (by omega)]
        rw [if_pos (by rw [List.length_map]; omega)]
        simp
      have rl : ((List.range i).map (startR ps fs)).length = i := by rw [List.length_map, List.length_range]
      have el : ((lastI ps.length i).map oV).set i (V.int (((ss.map V.ref).length : Nat) : Int)) = ((lastI ps.length i).set i (some ((List.range i).map (startR ps fs)).length)).map oV := by
        rw [List.map_set, List.length_map, ssl, rl]
        rfl
      rw [el]
      have sL : Sb2 SA LA H3 (upd H3 LA (.lst (((lastI ps.length i).set i (some ((List.range i).map (startR ps fs)).length)).map oV))) := fun b o e n m => by rw [upd_ne m]; exact e
      have g1' := sL _ _ g1 (ne_of g1 hss (by intro z; cases z)) (ne_of g1 ris3.la (by intro z; cases z))
      have hss' : (upd H3 LA (.lst (((lastI ps.length i).set i (some ((List.range i).map (startR ps fs)).length)).map oV))) SA = some (.lst (ss.map V.ref)) := by rw [upd_ne ris3.d1]; exact hss
      have hcs' := sL _ _ hcs ris3.d3.1 ris3.d3.2
      have hci' := sL _ _ hci (ne_of hci hss (by intro z; cases z)) (ne_of hci ris3.la (by intro z; cases z))
      refine ⟨_, rfl, a, CR, dx, _, _, rfl, g1', cr.cls, cr.n5, lk5, .inl ⟨rfl, _, SqL.of hss'⟩, ?_⟩
      have s0 : 0 < ps[i].2.2 := by have := (dv ps[i] (List.getElem_mem hip)).1; omega
      refine ⟨_, rfl, _, rfl, a, CR, dx, _, _, rfl, g1', cr.cls, cr.n3, lk3, _, rfl, CA, _, _, _, rfl, rfl, SqL.of hcs', atN (i := i) (by rw [List.getElem?_map, ec]; rfl), _, rfl, cs[i], ps[i].2.1, ps[i].2.2, fs[i], rfl, hci', s0, ?_⟩
      rw [up_eq s0]
      refine ⟨(by show 5 ≤ sizeLine; decide), fun q nq => ?_⟩
      have er : startR ps fs i = (i, upv ps[i].2.1 ps[i].2.2 fs[i], none, none, 0) := by
        unfold startR
        rw [fN_at ep, sN_at ep, xN_at ex]
      obtain ⟨ris2, sb2⟩ := ris3.push (r := startR ps fs i) (j := i) hss row nq
      have hss2 := (same_new (o := raV (startR ps fs i)) nq) _ _ hss'
      rw [show (HO.tup [V.int (i : Nat), V.int (upv ps[i].2.1 ps[i].2.2 fs[i]), V.non, V.non, V.int 0]) = raV (startR ps fs i) by rw [er]; rfl]
      refine ⟨SA, _, .ref q, rfl, rfl, hss2, ?_, ?_⟩
      · rw [List.length_map, ssl, sizeLine_eq]
        have := good.few
        omega
      refine ⟨_, _, rfl, sb3.trans sb2, ?_⟩
      rw [rl, lastI_step hip] at ris2
      rw [List.range_succ, List.map_append]
      rw [rl, lastI_step hip]
      exact ris2
    · rintro σ H2 ⟨v3, v4, rfl, sb, ris⟩
      rw [flen2, lastI_all] at ris
      refine k H2 NA CA RA SA LA (fun b o e ne => ?_) nSA0 LA0 ris
      have e2 := tA b o e ne
      exact sb b o e2 (ne_of_none e nSA0) (ne_of_none e LA0)
end
end K14
namespace K14
open PySem PySem.Spec L2 Rt
open PyProof.Rows hiding St
theorem pe_fldK {X : Cx} {K : PySem.W.Frag} {e : Expr} {f : Str} {pos : Pos} {ta : TE} (hK : X.K = K) (he : PE X e ta) (hb : attributeBase e f X.env (eval e X.env) = eval e X.env) : PE X (.Attribute e f pos) (tFld K ta f) := by
  subst hK
  exact pe_fld he hb
theorem atLast {α : Type} {xs : List α} {x : α} (pos : 0 < xs.length) (h : xs[xs.length - 1]? = some x) : atI xs (-1) = some x := by
  unfold atI ixN
  rw [if_neg (by omega), if_pos (by omega)]
  show xs[((-1 : Int) + (xs.length : Int)).toNat]? = _
  rw [show ((-1 : Int) + (xs.length : Int)).toNat = xs.length - 1 by omega]
  exact h
theorem riOf_at {ps : List Pt} {rs : List Rl} (good : Good ps rs) {k i j : Nat} {l : Int} : (riOf ps rs)[k]? = some (i, j, l) ↔ RuleAt ps rs k i j l := by
  unfold riOf RuleAt
  rw [List.getElem?_map]
  constructor
  · intro h
    cases e : rs[k]? with
    | none => rw [e] at h; cases h
    | some r =>
      rw [e] at h
      cases h
      obtain ⟨m1, m2⟩ := good.ends r (List.mem_of_getElem? e)
      exact ⟨r, rfl, idx_at m1, idx_at m2, rfl⟩
  · rintro ⟨r, h1, h2, h3, rfl⟩
    obtain ⟨m1, m2⟩ := good.ends r (List.mem_of_getElem? h1)
    rw [h1]
    show some (idx ps r.1, idx ps r.2.1, r.2.2) = some (i, j, r.2.2)
    rw [name_uniq good.nd (idx_at m1) h2, name_uniq good.nd (idx_at m2) h3]
theorem RuleAt.uniq {ps : List Pt} {rs : List Rl} (good : Good ps rs) {k i j i' j' : Nat} {l l' : Int} (h : RuleAt ps rs k i j l) (h' : RuleAt ps rs k i' j' l') : i' = i ∧ j' = j ∧ l' = l := by
  have a := (riOf_at good).mpr h
  have b := (riOf_at good).mpr h'
  rw [a] at b
  cases b
  exact ⟨rfl, rfl, rfl⟩
theorem RuleAt.ends {ps : List Pt} {rs : List Rl} {k i j : Nat} {l : Int} (h : RuleAt ps rs k i j l) : i < ps.length ∧ j < ps.length ∧ k < rs.length := by
  obtain ⟨r, h1, h2, h3, rfl⟩ := h
  have a := (List.getElem?_eq_some_iff.mp h2).1
  have b := (List.getElem?_eq_some_iff.mp h3).1
  rw [List.length_map] at a b
  exact ⟨a, b, (List.getElem?_eq_some_iff.mp h1).1⟩
/-- the numbers of the points and how far they have come -/
def Nums (n : Nat) (la : List (Option Nat)) (rl : List RT) (X : Nat → Int) (L : Nat → Nat) : Prop := ∀ p, p < n → ∃ (i : Nat) (r : RT), la[p]? = some (some i) ∧ rl[i]? = some r ∧ r.2.1 = X p ∧ r.2.2.2.2 = L p
theorem Nums.raise {n : Nat} {la : List (Option Nat)} {rl : List RT} {X : Nat → Int} {L : Nat → Nat} {j : Nat} {r : RT} (h : Nums n la rl X L) : Nums n (la.set j (some rl.length)) (rl ++ [r]) (fun q => if q = j then r.2.1 else X q) (fun q => if q = j then r.2.2.2.2 else L q) := fun p hp => by
  obtain ⟨i, s, h1, h2, h3, h4⟩ := h p hp
  have pl := (List.getElem?_eq_some_iff.mp h1).1
  by_cases e : p = j
  · subst e
    refine ⟨rl.length, r, by rw [List.getElem?_set_self pl], by rw [List.getElem?_append_right (Nat.le_refl _), Nat.sub_self]; rfl, by simp, by simp⟩
  · have il := (List.getElem?_eq_some_iff.mp h2).1
    refine ⟨i, s, by rw [List.getElem?_set_ne (Ne.symm e)]; exact h1, by rw [List.getElem?_append_left il]; exact h2, h3.trans (if_neg e).symm, h4.trans (if_neg e).symm⟩
/-- a row of numbers that keeps clocks and rules -/
structure Keeps (ps : List Pt) (rs : List Rl) (T : Nat → Int) : Prop where
  on : ∀ p, p < ps.length → (T p - fN ps p) % sN ps p = 0
  ru : ∀ k i j l, RuleAt ps rs k i j l → T i + l ≤ T j
def offOf (ps : List Pt) : Nat := Rise2.off (lcmOf ps) (sN ps) ps.length
structure Fits (ps : List Pt) (rs : List Rl) (M : Nat) : Prop where
  good : Good ps rs
  dv : ∀ p, p ∈ ps → 1 ≤ p.2.2 ∧ p.2.2.toNat ∣ M
  m0 : 0 < M
  m1 : M < 2 ^ 60
theorem Fits.N0 {ps : List Pt} {rs : List Rl} {M : Nat} (h : Fits ps rs M) : 0 < lcmOf ps := lcm_pos ps (fun p m => (h.dv p m).2) h.m0
theorem Fits.Nlt {ps : List Pt} {rs : List Rl} {M : Nat} (h : Fits ps rs M) : lcmOf ps < 2 ^ 60 := Nat.lt_of_le_of_lt (Nat.le_of_dvd h.m0 (lcm_dvd ps 1 (Nat.one_dvd M) fun p m => (h.dv p m).2)) h.m1
theorem Fits.sd {ps : List Pt} {rs : List Rl} {M : Nat} (h : Fits ps rs M) : ∀ p, p < ps.length → 0 < sN ps p ∧ sN ps p ∣ (lcmOf ps : Int) := fun p hp => by
  have e := List.getElem?_eq_getElem hp
  have m := List.getElem_mem hp
  have := (h.dv _ m).1
  rw [sN_at e]
  refine ⟨by omega, ?_⟩
  have d := dvd_lcmOf m
  have z : ((ps[p].2.2.toNat : Nat) : Int) = ps[p].2.2 := by omega
  rw [← z]
  exact Int.ofNat_dvd.mpr d
structure Stand (ps : List Pt) (rs : List Rl) (T X Y : Nat → Int) (L : Nat → Nat) (m t : Nat) : Prop where
  lap : Rise2.Lap ps.length (lcmOf ps) (fN ps) (sN ps) T (RuleAt ps rs) Y L m t
  on : ∀ p, p < ps.length → (Y p - fN ps p) % sN ps p = 0
  ge : ∀ p, X p ≤ Y p
  least : ∀ Z, Keeps ps rs Z → (∀ p, p < ps.length → X p ≤ Z p) → ∀ p, p < ps.length → Y p ≤ Z p
theorem Stand.start {ps : List Pt} {rs : List Rl} {T X : Nat → Int} (on : ∀ p, p < ps.length → (X p - fN ps p) % sN ps p = 0) : Stand ps rs T X X (fun _ => 0) 0 0 :=
  ⟨Rise2.Lap.start on, on, fun _ => Int.le_refl _, fun Z _ h => h⟩
theorem Stand.next {ps : List Pt} {rs : List Rl} {T X Y : Nat → Int} {L : Nat → Nat} {m : Nat} (h : Stand ps rs T X Y L m rs.length) : Stand ps rs T X Y L (m + 1) 0 :=
  ⟨h.lap.next fun k i j l r => r.ends.2.2, h.on, h.ge, h.least⟩
theorem Stand.still {ps : List Pt} {rs : List Rl} {T X Y : Nat → Int} {L : Nat → Nat} {m t i j : Nat} {l : Int} (good : Good ps rs) (h : Stand ps rs T X Y L m t) (r : RuleAt ps rs t i j l) (le : Y i + l ≤ Y j) : Stand ps rs T X Y L m (t + 1) :=
  ⟨h.lap.still (fun i' j' l' r' => r.uniq good r') le, h.on, h.ge, h.least⟩
theorem Stand.raise {ps : List Pt} {rs : List Rl} {M : Nat} {T X Y : Nat → Int} {L : Nat → Nat} {m t i j : Nat} {l : Int} (fit : Fits ps rs M) (kT : Keeps ps rs T) (h : Stand ps rs T X Y L m t) (r : RuleAt ps rs t i j l) (gt : Y j < upv (fN ps j) (sN ps j) (Y i + l)) :
    Stand ps rs T X (fun q => if q = j then upv (fN ps j) (sN ps j) (Y i + l) else Y q) (fun q => if q = j then L i + 1 else L q) m (t + 1) ∧ m + 2 ≤ offOf ps ∧ L i + 2 ≤ offOf ps := by
  obtain ⟨hi, hj, _⟩ := r.ends
  have sj := (fit.sd j hj).1
  obtain ⟨a, b, c⟩ := h.lap.raise (Y := fun q => if q = j then upv (fN ps j) (sN ps j) (Y i + l) else Y q) fit.N0 fit.sd r (fun i' j' l' r' => r.uniq fit.good r') hi hj (kT.on j hj) (kT.ru _ _ _ _ r) (h.on j hj) gt (by simp; rfl) (fun q ne => if_neg ne)
  refine ⟨⟨a, fun p hp => ?_, fun p => ?_, fun Z kZ hZ p hp => ?_⟩, b, c⟩
  · by_cases e : p = j
    · subst e
      simp only [if_true]
      exact upv_on _ _ _
    · simp only [if_neg e]
      exact h.on p hp
  · by_cases e : p = j
    · subst e
      simp only [if_true]
      have := h.ge p
      omega
    · simp only [if_neg e]
      exact h.ge p
  · by_cases e : p = j
    · subst e
      simp only [if_true]
      have le := kZ.ru _ _ _ _ r
      have li := h.least Z kZ hZ i hi
      exact Rise.upc_least sj (show Y i + l ≤ Z p by omega) (kZ.on p hp)
    · simp only [if_neg e]
      exact h.least Z kZ hZ p hp

theorem off_take {ps : List Pt} : ∀ i, i ≤ ps.length → ((((ps.take i).map fun p => (lcmOf ps : Int) / p.2.2)).sum : Int) = (Rise2.off (lcmOf ps) (sN ps) i : Nat) ∨ ∃ p, p ∈ ps ∧ p.2.2 < 1
  | 0, _ => .inl rfl
  | i + 1, h => by
    rcases off_take (ps := ps) i (Nat.le_of_succ_le h) with e | e
    · by_cases s1 : ps[i].2.2 < 1
      · exact .inr ⟨_, List.getElem_mem _, s1⟩
      · left
        have ep := List.getElem?_eq_getElem (show i < ps.length by omega)
        rw [List.take_succ, ep, List.map_append, List.sum_append, e]
        show _ + ([(lcmOf ps : Int) / ps[i].2.2].sum : Int) = ((Rise2.off (lcmOf ps) (sN ps) i + ((lcmOf ps : Int) / sN ps i).toNat : Nat) : Int)
        rw [sN_at ep]
        have z : 0 ≤ (lcmOf ps : Int) / ps[i].2.2 := Int.ediv_nonneg (by omega) (by omega)
        simp
        omega
    · exact .inr e
theorem off_sum {ps : List Pt} {rs : List Rl} {M : Nat} (fit : Fits ps rs M) : ((ps.map fun p => (lcmOf ps : Int) / p.2.2).sum : Int) = (offOf ps : Nat) := by
  rcases off_take (ps := ps) ps.length (Nat.le_refl _) with e | ⟨p, m, lt⟩
  · rw [List.take_length] at e
    exact e
  · have := (fit.dv p m).1
    omega
def spFin (CR : Addr) : Sp := fun vs H Q _ => ∃ (a NA CA RA SA LA : Addr) (ps : List Pt) (rs : List Rl) (rl : List RT) (la : List (Option Nat)) (X T : Nat → Int) (M : Nat), vs = [.ref a] ∧ RisAt H CR a NA CA RA SA LA ps (riOf ps rs) rl la ∧ Fits ps rs M ∧ Keeps ps rs T ∧
  Nums ps.length la rl X (fun _ => 0) ∧ (∀ p, p < ps.length → (X p - fN ps p) % sN ps p = 0) ∧ rl.length + (offOf ps + 2) * rs.length ≤ 900000 ∧
  ∀ (H' : Hp) (rl' : List RT) (la' : List (Option Nat)) (Y : Nat → Int) (L : Nat → Nat), Sb2 SA LA H H' → RisAt H' CR a NA CA RA SA LA ps (riOf ps rs) rl' la' → Nums ps.length la' rl' Y L → Keeps ps rs Y → (∀ p, X p ≤ Y p) →
    (∀ Z, Keeps ps rs Z → (∀ p, p < ps.length → X p ≤ Z p) → ∀ p, p < ps.length → Y p ≤ Z p) → Q .non H'
section
variable {P : Program} {w : World} {K : PySem.W.Frag} {mg : Str → Option Value} {base : Heap} {f C CR : Addr} {fd : FuncData}

theorem scFin : FnScope ["self", "rests", "going", "rule", "clock"] ["self"] (defScope sFin) := ⟨rfl, rfl, rfl, by decide +kernel, rfl, by decide +kernel, by decide +kernel⟩
def FinW (H : Hp) (CR a NA CA RA SA LA : Addr) (ps : List Pt) (rs : List Rl) (rl : List RT) (X TT : Nat → Int) (mm : Nat) (σ : St) (H2 : Hp) : Prop := ∃ (v : Option V) (m : Nat) (g : Bool) (rl2 : List RT) (la2 : List (Option Nat)) (Y : Nat → Int) (L : Nat → Nat), σ = [some (.ref a), some (.int (offOf ps : Nat)), some (.bl g), v, none] ∧ Sb2 SA LA H H2 ∧
  RisAt H2 CR a NA CA RA SA LA ps (riOf ps rs) rl2 la2 ∧ Nums ps.length la2 rl2 Y L ∧ Stand ps rs TT X Y L m 0 ∧ rl2.length ≤ rl.length + m * rs.length ∧ (g = true → m ≤ offOf ps ∧ mm = offOf ps + 1 - m) ∧ (g = false → Keeps ps rs Y)
theorem ok_fin (F : Fun K "finish" "Rising.finish" sFin f fd) (T : Wds mg) (zrange : mg "range" = none) (zsum : mg "sum" = none) (cr : ClsR K CR) (mFol : Md P w K mg base 2 CR "_follow" (spFol CR)) : FnOk P w K mg base CX0 3 f fd ["self"] (spFin CR) := by
  refine F.ok scFin (fun vs H Q E h => ?_) (fun cdv A outer s H vs Q E hr h => ?_)
  · obtain ⟨a, NA, CA, RA, SA, LA, ps, rs, rl, la, X, TT, M, rfl, _⟩ := h
    rfl
  · obtain ⟨a, NA, CA, RA, SA, LA, ps, rs, rl, la, X, TT, M, rfl, ris, fit, kT, nums, onX, few, k⟩ := h
    refine ⟨_, (pss_cons (ps_set (i := 1) scFin.nd rfl (.inl rfl) (pe_callB (cr_sum (by rfl)) (by rfl) zsum (by decide +kernel) (pa_cons (pe_lc (own := [("clock", 4)]) (by rfl) scFin.nd (pi_list (pe_fld (pv 0) (by rfl))) (blkOk_by (N := ["self", "rests", "going", "rule", "clock"]) (sc := defScope sFin) (by decide +kernel)) (fun _ _ _ _ _ => (pg_name (i := 4) scFin.nd rfl (.inl rfl))) (fun _ _ _ _ _ => pts_nil) (fun _ _ _ _ _ => (pe_op op_fdivW (pe_fldK (K := K) rfl (pv 0) (by rfl)) (pe_ix (ix_tup : IxR _ (rIxT K)) (pv 4) pe_int (fun _ _ => rfl))))) pa_nil)))
      (pss_cons (ps_set (i := 2) scFin.nd rfl (.inl rfl) pe_bl)
      (pss_cons (ps_while PassesOwn.never (pt_val (pv 2))
        (pss_cons (ps_set (i := 2) scFin.nd rfl (.inl rfl) pe_bl)
        (pss_one (ps_for PassesOwn.never rfl (pi_range1 (by rfl) zrange (pa_cons (pe_callB call_len_seq (by rfl) T.zlen (by decide +kernel) (pa_cons (pe_fld (pv 0) (by rfl)) pa_nil)) pa_nil)) (pg_name (i := 3) scFin.nd rfl (.inl rfl))
          (pss_one (ps_if (pt_val (pe_m cr.cls mFol hr (by decide) (pv 0) (pa_cons (pv 3) pa_nil))) (pss_cons (ps_set (i := 2) scFin.nd rfl (.inl rfl) pe_bl)
            (pss_one (ps_if (pt_cmpR op_ge (pe_ix ix_tup (pe_ix ix_list (pe_fld (pv 0) (by rfl)) (pe_un un_neg pe_int) (fun _ _ => rfl)) pe_int (fun _ _ => rfl)) (pv 1) (nomark _)) (pss_one ps_never) pss_nil))) pss_nil))))))
      (pss_one (ps_ret pe_non))))), ?_⟩
    obtain ⟨dx, h1⟩ := ris.at_
    obtain ⟨cs, hcs, rowc⟩ := ris.ck
    have N0 := fit.N0
    have Nlt := fit.Nlt
    refine ⟨_, rfl, a, CR, dx, _, _, rfl, h1, cr.cls, cr.n3, lk3, CA, rfl, ⟨_, SqL.of hcs⟩, fun D nD => ?_⟩
    refine lc_it walk_list (fun i H1 => Same H H1 ∧ H1 D = some (.lst (((ps.take i).map fun p => (lcmOf ps : Int) / p.2.2).map V.int))) ⟨same_new nD, upd_same⟩ (fun i H1 _ z => SqL.of (z.1 _ _ hcs)) ?_ ?_
    · rintro i y H1 H2 hi ⟨s1, hD⟩ ⟨rfl, hy⟩
      have hi' : i < cs.length := by rw [List.length_map] at hi; exact hi
      have hip : i < ps.length := by rw [← rowc.1]; exact hi'
      have ep := List.getElem?_eq_getElem hip
      obtain rfl : V.ref cs[i] = y := by
        rw [List.getElem?_map, List.getElem?_eq_getElem hi'] at hy
        exact Option.some.inj hy
      have pc := s1 _ _ (rowc.2 i _ _ (List.getElem?_eq_getElem hi') ep)
      obtain ⟨k1, k2⟩ := fit.good.ok _ (List.getElem_mem hip)
      refine ⟨rfl, _, rfl, a, CR, dx, _, _, rfl, s1 _ _ h1, cr.cls, cr.n2, lk2, _, rfl, cs[i], _, 1, _, rfl, rfl, SqT.of pc, rfl, _, _, rfl, rfl, wide_div (b := 60) (by omega) (by omega) (by omega) (by omega), ?_⟩
      refine ⟨_, hD, small1000 (by rw [List.length_map, List.length_map, List.length_take]; have := fit.good.few; omega), fun b o z => by rw [upd_ne (ne_of_none z nD)]; exact s1 b o z, ?_⟩
      rw [upd_same, List.take_succ, ep, List.map_append, List.map_append]
      rfl
    rintro H1 ⟨s1, hD⟩
    rw [List.take_of_length_le (by rw [List.length_map, rowc.1]; exact Nat.le_refl _)] at hD
    refine ⟨D, _, rfl, SqL.of hD, ?_⟩
    rw [off_sum fit]
    have ris1 := ris.same s1
    have sb1 : Sb2 SA LA H H1 := Sb2.of s1
    refine ⟨FinW H CR a NA CA RA SA LA ps rs rl X TT, ⟨offOf ps + 1, none, 0, true, rl, la, X, fun _ => 0, rfl, sb1, ris1, nums, Stand.start onX, by omega, fun _ => ⟨Nat.zero_le _, rfl⟩, fun z => nomatch z⟩, ?_⟩
    rintro mm σ H2 ⟨v, m, g, rl2, la2, Y, L, rfl, sb2, ris2, nums2, st2, few2, hg, hk⟩
    refine ⟨_, rfl, g, rfl, ?_⟩
    cases g with
    | false =>
      show Q _ _
      exact k H2 rl2 la2 Y L sb2 ris2 nums2 (hk rfl) st2.ge st2.least
    | true =>
      obtain ⟨hm, emm⟩ := hg rfl
      rw [if_pos rfl]
      refine ⟨fun σ' H' => ∃ m', m' < mm ∧ FinW H CR a NA CA RA SA LA ps rs rl X TT m' σ' H', fun σ' H' z => z, ?_⟩
      obtain ⟨dx2, g1⟩ := ris2.at_
      obtain ⟨bs, hbs, rowb⟩ := ris2.ru
      have bl : (bs.map V.ref).length = rs.length := by rw [List.length_map, rowb.1]; exact List.length_map ..
      refine ⟨_, rfl, a, CR, dx2, _, _, rfl, g1, cr.cls, cr.n4, lk4, RA, _, rfl, .inl (SqL.of hbs), (((bs.map V.ref).length : Nat) : Int), rfl, by omega, by have := fit.good.fewR; omega, ?_⟩
      rw [bl]
      refine for_range (lo := 0) (n := rs.length) (fun t σ H3 => ∃ (v : Option V) (g : Bool) (rl3 : List RT) (la3 : List (Option Nat)) (Y3 : Nat → Int) (L3 : Nat → Nat), σ = [some (.ref a), some (.int (offOf ps : Nat)), some (.bl g), v, none] ∧ Sb2 SA LA H H3 ∧
        RisAt H3 CR a NA CA RA SA LA ps (riOf ps rs) rl3 la3 ∧ Nums ps.length la3 rl3 Y3 L3 ∧ Stand ps rs TT X Y3 L3 m t ∧ rl3.length ≤ rl.length + m * rs.length + t ∧ (g = true → m + 2 ≤ offOf ps) ∧ (g = false → ∀ k i j l, RuleAt ps rs k i j l → k < t → Y3 i + l ≤ Y3 j))
        ⟨_, _, rl2, la2, Y, L, rfl, sb2, ris2, nums2, st2, by omega, fun z => (nomatch z), fun _ k i j l _ lt => absurd lt (Nat.not_lt_zero k)⟩ ?_ ?_
      · rintro t σ H3 ht ⟨v, g, rl3, la3, Y3, L3, rfl, sb3, ris3, nums3, st3, few3, hg3, hk3⟩
        have et := List.getElem?_eq_getElem ht
        obtain ⟨m1', m2'⟩ := fit.good.ends _ (List.getElem_mem ht)
        have r : RuleAt ps rs t (idx ps rs[t].1) (idx ps rs[t].2.1) rs[t].2.2 := ⟨rs[t], et, idx_at m1', idx_at m2', rfl⟩
        obtain ⟨hi, hj, _⟩ := r.ends
        obtain ⟨ci, r1, a1, a2, a3, a4⟩ := nums3 _ hi
        obtain ⟨cj, r2, b1, b2, b3, b4⟩ := nums3 _ hj
        have ej := List.getElem?_eq_getElem hj
        have sj := (fit.sd _ hj).1
        rw [sN_at ej] at sj
        obtain ⟨dx3, g3⟩ := ris3.at_
        have few4 : rl3.length ≤ 1000000 := by
          have z : m * rs.length ≤ offOf ps * rs.length := Nat.mul_le_mul_right _ hm
          rw [Nat.add_mul] at few
          omega
        refine ⟨_, rfl, a, dx3, _, rfl, g3, lk_no (by decide +kernel) (by decide +kernel) (by decide +kernel) (by decide +kernel) (by decide +kernel) (by decide +kernel), _, rfl, a, NA, CA, RA, SA, LA, ps, riOf ps rs, rl3, la3, t, idx ps rs[t].1, idx ps rs[t].2.1, ci, cj, rs[t].2.2, r1, r2, ps[idx ps rs[t].2.1], by rw [Int.zero_add]; rfl, ris3, (riOf_at fit.good).mpr r, a1, a2, b1, b2, ej, sj, few4, fun le => ?_, fun lt H4 s4 ris4 => ?_⟩
        · refine ⟨_, rfl, iteF ?_⟩
          have le' : Y3 (idx ps rs[t].1) + rs[t].2.2 ≤ Y3 (idx ps rs[t].2.1) := by
            have := upv_le (f := ps[idx ps rs[t].2.1].2.1) (x := r1.2.1 + rs[t].2.2) sj
            rw [← a3, ← b3]
            omega
          refine ⟨_, g, rl3, la3, Y3, L3, rfl, sb3, ris3, nums3, st3.still fit.good r le', by omega, hg3, fun z k i j l r' lt => ?_⟩
          by_cases e : k = t
          · subst e
            obtain ⟨rfl, rfl, rfl⟩ := r.uniq fit.good r'
            exact le'
          · exact hk3 z k i j l r' (by omega)
        · refine ⟨_, rfl, iteT ?_⟩
          have gt : Y3 (idx ps rs[t].2.1) < upv (fN ps (idx ps rs[t].2.1)) (sN ps (idx ps rs[t].2.1)) (Y3 (idx ps rs[t].1) + rs[t].2.2) := by
            rw [fN_at ej, sN_at ej, ← a3, ← b3]
            exact lt
          obtain ⟨st4, c1, c2⟩ := st3.raise fit kT r gt
          have nums4 := nums3.raise (j := idx ps rs[t].2.1) (r := (idx ps rs[t].2.1, upv ps[idx ps rs[t].2.1].2.1 ps[idx ps rs[t].2.1].2.2 (r1.2.1 + rs[t].2.2), some t, some ci, r1.2.2.2.2 + 1))
          obtain ⟨dx4, g4⟩ := ris4.at_
          obtain ⟨ss, hss, row⟩ := ris4.ra
          have ssl : ss.length = rl3.length + 1 := by rw [row.1, List.length_append]; rfl
          have lst : rl3.length < ss.length := by omega
          have es := List.getElem?_eq_getElem lst
          have hs4 := row.2 rl3.length _ _ es (by rw [List.getElem?_append_right (Nat.le_refl _), Nat.sub_self]; rfl)
          refine ⟨_, rfl, a, CR, dx4, _, _, rfl, g4, cr.cls, cr.n5, lk5, 1, rfl, SA, _, _, _, rfl, rfl, SqL.of hss, atLast (by rw [List.length_map]; omega) (by rw [List.length_map, List.getElem?_map, ssl, Nat.add_sub_cancel, es]; rfl), ss[rl3.length], _, 4, _, rfl, rfl, SqT.of hs4, rfl, _, rfl, ?_⟩
          refine ⟨_, _, rfl, rfl, _, rfl, ?_⟩
          rw [decide_eq_false (show ¬ ((offOf ps : Nat) : Int) ≤ ((r1.2.2.2.2 + 1 : Nat) : Int) by rw [a4]; omega)]
          refine iteF ?_
          rw [fN_at ej, sN_at ej, ← a3, ← a4] at st4
          refine ⟨_, true, _, _, _, _, rfl, sb3.trans s4, ris4, nums4, st4, ?_, fun _ => c1, fun z => nomatch z⟩
          rw [List.length_append]
          show rl3.length + 1 ≤ _
          omega
      · rintro σ H3 ⟨v, g, rl3, la3, Y3, L3, rfl, sb3, ris3, nums3, st3, few3, hg3, hk3⟩
        have few5 : rl3.length ≤ rl.length + (m + 1) * rs.length := by
          rw [Nat.add_mul, Nat.one_mul]
          omega
        cases g with
        | true =>
          have := hg3 rfl
          exact ⟨offOf ps + 1 - (m + 1), by omega, _, m + 1, true, rl3, la3, Y3, L3, rfl, sb3, ris3, nums3, st3.next, few5, fun _ => ⟨by omega, rfl⟩, fun z => nomatch z⟩
        | false => exact ⟨0, by omega, _, m + 1, false, rl3, la3, Y3, L3, rfl, sb3, ris3, nums3, st3.next, few5, (fun z => nomatch z), fun _ => ⟨st3.on, fun k i j l r => hk3 rfl k i j l r r.ends.2.2⟩⟩
end
end K14
namespace K14
open PySem PySem.Spec L2 Rt
open PyProof.Rows hiding St
/-- the least row that keeps clocks and rules from the floors on -/
structure Least (ps : List Pt) (rs : List Rl) (fs xs : List Int) : Prop where
  len : xs.length = ps.length
  keeps : Keeps ps rs (xN xs)
  ge : ∀ p, p < ps.length → xN fs p ≤ xN xs p
  least : ∀ Z, Keeps ps rs Z → (∀ p, p < ps.length → xN fs p ≤ Z p) → ∀ p, p < ps.length → xN xs p ≤ Z p
theorem xN_eq {xs ys : List Int} (l : xs.length = ys.length) (e : ∀ p, p < xs.length → xN xs p = xN ys p) : xs = ys := by
  refine List.ext_getElem l fun i h1 h2 => ?_
  have := e i h1
  rw [xN_at (List.getElem?_eq_getElem h1), xN_at (List.getElem?_eq_getElem h2)] at this
  exact this
theorem Least.uniq {ps : List Pt} {rs : List Rl} {fs xs ys : List Int} (a : Least ps rs fs xs) (b : Least ps rs fs ys) : xs = ys :=
  xN_eq (a.len.trans b.len.symm) fun p hp => by
    have h : p < ps.length := a.len ▸ hp
    have h1 := a.least _ b.keeps b.ge p h
    have h2 := b.least _ a.keeps a.ge p h
    omega
/-- a row told by a function -/
def rowN (n : Nat) (Y : Nat → Int) : List Int := (List.range n).map Y
theorem rowN_len {n : Nat} {Y : Nat → Int} : (rowN n Y).length = n := by unfold rowN; rw [List.length_map, List.length_range]
theorem rowN_at {n p : Nat} {Y : Nat → Int} (h : p < n) : (rowN n Y)[p]? = some (Y p) := by unfold rowN; rw [List.getElem?_map, List.getElem?_range h]; rfl
theorem xN_row {n p : Nat} {Y : Nat → Int} (h : p < n) : xN (rowN n Y) p = Y p := xN_at (rowN_at h)
theorem Keeps.of {ps : List Pt} {rs : List Rl} {X Y : Nat → Int} (h : Keeps ps rs X) (e : ∀ p, p < ps.length → Y p = X p) : Keeps ps rs Y :=
  ⟨fun p hp => by rw [e p hp]; exact h.on p hp, fun k i j l r => by
    obtain ⟨hi, hj, _⟩ := r.ends
    rw [e i hi, e j hj]
    exact h.ru k i j l r⟩
theorem Least.of {ps : List Pt} {rs : List Rl} {M : Nat} {fs : List Int} {Y : Nat → Int} (fit : Fits ps rs M) (k : Keeps ps rs Y) (ge : ∀ p, upv (fN ps p) (sN ps p) (xN fs p) ≤ Y p)
    (least : ∀ Z, Keeps ps rs Z → (∀ p, p < ps.length → upv (fN ps p) (sN ps p) (xN fs p) ≤ Z p) → ∀ p, p < ps.length → Y p ≤ Z p) : Least ps rs fs (rowN ps.length Y) := by
  refine ⟨rowN_len, k.of fun p hp => xN_row hp, fun p hp => ?_, fun Z kZ hZ p hp => ?_⟩
  · rw [xN_row hp]
    exact Int.le_trans (upv_le (fit.sd p hp).1) (ge p)
  · rw [xN_row hp]
    exact least Z kZ (fun q hq => Rise.upc_least (fit.sd q hq).1 (hZ q hq) (kZ.on q hq)) p hp
theorem none_same {H H' : Hp} {q : Addr} (s : Same H H') (n : H' q = none) : H q = none := by
  cases e : H q with
  | none => rfl
  | some o =>
    rw [s _ _ e] at n
    cases n
def spForced (C : Addr) : Sp := fun vs H Q _ => ∃ (n fl : Addr) (ps : List Pt) (rs : List Rl) (fs : List Int) (T : Nat → Int) (M : Nat), vs = [.ref n, .ref fl] ∧ NetAt H C n ps rs ∧ Fits ps rs M ∧ Keeps ps rs T ∧ Row2 H fl (fs.map V.int) ∧ fs.length = ps.length ∧
  ps.length + (offOf ps + 2) * rs.length ≤ 900000 ∧ ∀ (t : Addr) (xs : List Int) (H' : Hp), Same H H' → H' t = some (.tup (xs.map V.int)) → Least ps rs fs xs → Q (.ref t) H'
section
variable {P : Program} {w : World} {K : PySem.W.Frag} {mg : Str → Option Value} {base : Heap} {f C CR : Addr} {fd : FuncData}

theorem scForced : FnScope ["network", "floors", "rising", "ring"] ["network", "floors"] (defScope sForced) := ⟨rfl, rfl, rfl, by decide +kernel, rfl, by decide +kernel, by decide +kernel⟩
theorem ok_forced (F : Fun K "forced" "forced" sForced f fd) (cr : ClsR K CR) (mk : Mkr P w K mg base 5 CR "Rising" (spRInit C CR)) (mFin : Md P w K mg base 3 CR "finish" (spFin CR)) (mNums : Md P w K mg base 2 CR "numbers" (spRNums CR)) : FnOk P w K mg base CX0 7 f fd ["network", "floors"] (spForced C) := by
  refine F.ok scForced (fun vs H Q E h => ?_) (fun cdv A outer s H vs Q E hr h => ?_)
  · obtain ⟨n, fl, ps, rs, fs, TT, M, rfl, _⟩ := h
    rfl
  · obtain ⟨n, fl, ps, rs, fs, TT, M, rfl, net, fit, kT, hfl, flen, few, k⟩ := h
    refine ⟨_, (pss_cons (ps_set (i := 2) scForced.nd rfl (.inl rfl) (pe_mkr mk hr (by decide) (by rfl) (pa_cons (pv 0) (pa_cons (pv 1) pa_nil))))
      (pss_cons (ps_set (i := 3) scForced.nd rfl (.inl rfl) (pe_m0' cr.cls mFin hr (by decide) (pv 2)))
      (pss_cons (ps_if (pt_cmpR op_notN (pv 3) pe_non (nomark _)) (pss_one ps_never) pss_nil)
      (pss_one (ps_ret (pe_m0' cr.cls mNums hr (by decide) (pv 2))))))), ?_⟩
    refine ⟨_, rfl, _, rfl, fun a dx na nd da => ?_⟩
    have nd' : (upd H dx (.own a)) a = none := by rw [upd_ne da.symm]; exact na
    have s1 := (same_new (o := .own a) nd).trans (same_new (o := .ins CR dx []) nd')
    have ha : (upd (upd H dx (.own a)) a (.ins CR dx [])) a = some (.ins CR dx []) := upd_same
    revert s1 ha
    generalize upd (upd H dx (.own a)) a (.ins CR dx []) = H1
    intro s1 ha
    have aH : ∀ b o, H b = some o → b ≠ a := fun b o e => ne_of_none e na
    refine ⟨a, dx, n, fl, ps, rs, fs, M, rfl, ha, net.same s1, fit.good, fit.dv, fit.m0, fit.m1, hfl.same s1, flen, fun H2 NA CA RA SA LA b2 nSA nLA ris => ?_⟩
    have s2 : Same H H2 := fun b o e => b2 b o (s1 b o e) (aH b o e)
    have nSA0 : H SA = none := none_same s1 nSA
    have nLA0 : H LA = none := none_same s1 nLA
    refine ⟨rfl, ?_⟩
    obtain ⟨dx2, g2⟩ := ris.at_
    have nums : Nums ps.length ((List.range ps.length).map some) ((List.range ps.length).map (startR ps fs)) (fun p => upv (fN ps p) (sN ps p) (xN fs p)) (fun _ => 0) := fun p hp => ⟨p, startR ps fs p, by rw [List.getElem?_map, List.getElem?_range hp]; rfl, by rw [List.getElem?_map, List.getElem?_range hp]; rfl, rfl, rfl⟩
    refine ⟨_, rfl, a, dx2, _, rfl, g2, lk_no (by decide +kernel) (by decide +kernel) (by decide +kernel) (by decide +kernel) (by decide +kernel) (by decide +kernel), a, NA, CA, RA, SA, LA, ps, rs, _, _, _, TT, M, rfl, ris, fit, kT, nums, fun p _ => upv_on _ _ _, ?_, fun H3 rl la Y L sb3 ris3 nums3 kY geY leY => ?_⟩
    · rw [List.length_map, List.length_range]
      exact few
    have s3 : Same H H3 := fun b o e => sb3 b o (s2 b o e) (ne_of_none e nSA0) (ne_of_none e nLA0)
    obtain ⟨dx3, g3⟩ := ris3.at_
    refine ⟨_, rfl, rfl, false, rfl, iteF ?_⟩
    refine ⟨_, rfl, a, dx3, _, rfl, g3, lk_no (by decide +kernel) (by decide +kernel) (by decide +kernel) (by decide +kernel) (by decide +kernel) (by decide +kernel), a, NA, CA, RA, SA, LA, ps, _, rl, la, rowN ps.length Y, rfl, ris3, rowN_len, fit.good.few, fun p x e => ?_, fun t H4 s4 ht => ?_⟩
    · have hp : p < ps.length := by
        have := (List.getElem?_eq_some_iff.mp e).1
        rw [rowN_len] at this
        exact this
      rw [rowN_at hp] at e
      cases e
      obtain ⟨i, r, e1, e2, e3, _⟩ := nums3 p hp
      exact ⟨i, r, e1, e2, e3⟩
    exact k t _ H4 (s3.trans s4) ht (Least.of fit kY geY leY)
theorem scEar : FnScope ["network", "floors"] ["network", "floors"] (defScope sEar) := ⟨rfl, rfl, rfl, by decide +kernel, rfl, by decide +kernel, by decide +kernel⟩
theorem ok_ear (F : Fun K "earliest" "earliest" sEar f fd) (fFor : Cf P w K mg base 7 "forced" (spForced C)) : FnOk P w K mg base CX0 8 f fd ["network", "floors"] (spForced C) := by
  refine F.ok scEar (fun vs H Q E h => ?_) (fun cdv A outer s H vs Q E hr h => ?_)
  · obtain ⟨n, fl, ps, rs, fs, TT, M, rfl, _⟩ := h
    rfl
  · have h0 := h
    obtain ⟨n, fl, ps, rs, fs, TT, M, rfl, _⟩ := h0
    refine ⟨_, (pss_one (ps_ret (pe_f fFor hr (by decide) (by rfl) (pa_cons (pv 0) (pa_cons (pv 1) pa_nil))))), ?_⟩
    exact ⟨_, rfl, _, rfl, h⟩
end
end K14
namespace K14
open PySem PySem.Spec L2 Rt
open PyProof.Rows hiding St

abbrev sLUpX : Stmt := top 34
abbrev sLPer : Stmt := top 36
def spLUpX : Sp := fun vs H Q _ => ∃ (t : Addr) (f s x : Int), vs = [.ref t, .int x] ∧ H t = some (.tup [.int f, .int s]) ∧ 0 < s ∧ Q (.int (upv f s x)) H
/-- the things in a drawn order -/
def spMixed : Sp := fun vs H Q _ => ∃ (d c p : Addr) (xs : List V), vs = [.ref d, .ref p] ∧ Src H d c ∧ H p = some (.lst xs) ∧ xs.length ≤ 1000 ∧
  ∀ (q : Addr) (ys : List V) (H' : Hp), ys.Perm xs → H q = none → H' q = some (.lst ys) → Src H' d c → Keep d c H H' → Q (.ref q) H'
def spWords : Sp := fun vs H Q _ => ∃ (d c : Addr) (n : Nat), vs = [.ref d, .int n] ∧ Src H d c ∧ n ≤ 40 ∧
  ∀ (L : Addr) (ws : List Str) (H' : Hp), mask d c H' L = some (.lst (ws.map V.str)) → ws.length = n → (∀ w, w ∈ ws → Word w) → ws.Nodup → Src H' d c → Keep d c H H' → Q (.ref L) H'
/-- so many laps of Euclid come to an end -/
def doneE : Nat → Nat → Nat → Bool
  | 0, _, y => y == 0
  | k + 1, x, y => if y = 0 then true else doneE k y (x % y)
theorem doneE_zero : ∀ {k x : Nat}, doneE k x 0 = true
  | 0, _ => rfl
  | k + 1, x => by
    show (if 0 = 0 then true else doneE k 0 (x % 0)) = true
    rw [if_pos rfl]
theorem doneE_next {k x y : Nat} (h : ¬ y = 0) (d : doneE (k + 1) x y = true) : doneE k y (x % y) = true := by
  have d : (if y = 0 then true else doneE k y (x % y)) = true := d
  rwa [if_neg h] at d
theorem doneE_end {x y : Nat} (d : doneE (12 - 12) x y = true) : y = 0 := by
  have d : (y == 0) = true := d
  simpa using d
theorem doneE_tab : (List.range 61).all (fun y => (List.range y).all fun r => doneE 11 y r) = true := by decide +kernel
theorem doneE_all {x y : Nat} (h : y ≤ 60) : doneE (12 - 0) x y = true := by
  show (if y = 0 then true else doneE 11 y (x % y)) = true
  by_cases e : y = 0
  · rw [if_pos e]
  · rw [if_neg e]
    exact List.all_eq_true.mp (List.all_eq_true.mp doneE_tab y (List.mem_range.mpr (by omega))) _ (List.mem_range.mpr (Nat.mod_lt x (by omega)))
def spLPer : Sp := fun vs H Q _ => ∃ (PA : Addr) (as : List Addr) (ps : List Pt), vs = [.ref PA] ∧ H PA = some (.lst (as.map V.ref)) ∧ Row ptV H as ps ∧ (∀ p, p ∈ ps → 1 ≤ p.2.2 ∧ p.2.2 ≤ 60 ∧ p.2.2.toNat ∣ 420) ∧
  ∀ H', Same H H' → Q (.int (lcmOf ps)) H'
theorem Keep.of {d c : Addr} {H H' : Hp} (s : Same H H') : Keep d c H H' := fun b o e _ _ => s b o e
def alphaW (k : Nat) : Str := ("alpha" : Str) ++ Str.ofString (toString ((0 : Int) + (k : Nat)))
def manyW : List Str := (["a", "b", "at", "voice", "standing", "abcdefghijkl", "z0"] : List Str) ++ (List.range 40).map alphaW
def wordB (x : Str) : Bool := x.cps.size ≤ 12 && (match x.cps.toList with
  | [] => false
  | c :: _ => LET.cps.toList.contains c) && x.cps.toList.all fun y => SGN.cps.toList.contains y
theorem word_of {x : Str} (h : wordB x = true) : Word x := by
  unfold wordB at h
  simp only [Bool.and_eq_true, decide_eq_true_eq, List.all_eq_true, List.contains_iff_mem] at h
  obtain ⟨⟨h1, h2⟩, h3⟩ := h
  refine ⟨h1, ?_, h3⟩
  cases e : x.cps.toList with
  | nil => rw [e] at h2; cases h2
  | cons c cs =>
    rw [e] at h2
    exact ⟨c, cs, rfl, List.contains_iff_mem.mp h2⟩
theorem manyW_word : ∀ w, w ∈ manyW → Word w := by
  have h : manyW.all wordB = true := by decide +kernel
  exact fun w m => word_of (List.all_eq_true.mp h w m)
theorem manyW_nodup : manyW.Nodup := by decide +kernel
theorem perm_strs {ws : List Str} {ys : List V} (h : ys.Perm (ws.map V.str)) : ∃ us : List Str, ys = us.map V.str ∧ us.Perm ws := by
  refine ⟨ys.map (fun v => match v with | .str x => x | _ => ("" : Str)), ?_, ?_⟩
  · rw [List.map_map]
    have : ∀ y, y ∈ ys → (V.str ∘ fun v : V => match v with | .str x => x | _ => ("" : Str)) y = y := fun y m => by
      obtain ⟨x, _, rfl⟩ := List.mem_map.mp (h.mem_iff.mp m)
      rfl
    exact ((List.map_congr_left this).trans (List.map_id ys)).symm
  · have := h.map (fun v : V => match v with | .str x => x | _ => ("" : Str))
    rw [List.map_map] at this
    refine this.trans ?_
    rw [show ((fun v : V => match v with | .str x => x | _ => ("" : Str)) ∘ V.str) = id from rfl, List.map_id]
theorem erase_perm {α : Type} {xs : List α} {i : Nat} (h : i < xs.length) : (xs[i] :: xs.eraseIdx i).Perm xs := by
  have e : xs = xs.take i ++ xs[i] :: xs.drop (i + 1) := by rw [List.getElem_cons_drop, List.take_append_drop]
  rw [List.eraseIdx_eq_take_drop_succ]
  exact List.perm_middle.symm.trans (List.Perm.of_eq e.symm)
theorem none_but1 {H : Hp} {R D : Addr} {o : HO} (h : (upd H R o) D = none) : H D = none ∧ D ≠ R := by
  have n : D ≠ R := fun z => by
    subst z
    rw [upd_same] at h
    cases h
  exact ⟨by rw [upd_ne n] at h; exact h, n⟩
section
variable {P : Program} {w : World} {K : PySem.W.Frag} {mg : Str → Option Value} {base : Heap} {f : Addr} {fd : FuncData}

theorem scLUpX : FnScope ["clock", "x"] ["clock", "x"] (defScope sLUpX) := ⟨rfl, rfl, rfl, by decide +kernel, rfl, by decide +kernel, by decide +kernel⟩
theorem ok_lupX (F : Fun K "_law_up" "_law_up" sLUpX f fd) (T : Lw mg) : FnG P w K mg base 1 f fd ["clock", "x"] spLUpX := by
  refine okG F scLUpX (fun vs H Q E h => ?_) (fun cdv A outer s H vs Q E hg hr h => ?_)
  · obtain ⟨t, f, s, x, rfl, _⟩ := h
    rfl
  · obtain ⟨t, f, s, x, rfl, ht, hs, k⟩ := h
    refine ⟨_, (pss_one (ps_ret (pe_op op_add (pv 1) (pe_op op_mod (pe_callTy call_int1 (by rfl) T.zint (by decide +kernel) (pa_cons (pe_op op_sub (pe_ix ix_tup (pv 0) pe_int (fun _ _ => rfl)) (pv 1)) pa_nil)) (pe_ix ix_tup (pv 0) pe_int (fun _ _ => rfl)))))), ?_⟩
    have a0 : atI [V.int f, V.int s] 0 = some (V.int f) := rfl
    have a1 : atI [V.int f, V.int s] 1 = some (V.int s) := rfl
    rw [← up_eq hs] at k
    exact ⟨_, rfl, _, rfl, t, _, _, _, rfl, rfl, SqT.of ht, a0, _, rfl, _, _, rfl, rfl, .inl ⟨_, rfl, _, rfl, t, _, _, _, rfl, rfl, SqT.of ht, a1, _, _, rfl, rfl, hs, _, _, rfl, rfl, k⟩⟩
theorem scLPer : FnScope ["points", "found", "name", "first", "step", "rest", "lap"] ["points"] (defScope sLPer) := ⟨rfl, rfl, rfl, by decide +kernel, rfl, by decide +kernel, by decide +kernel⟩
theorem ok_lper (F : Fun K "_law_period" "_law_period" sLPer f fd) (T : Lw mg) : FnG P w K mg base 1 f fd ["points"] spLPer := by
  refine okG F scLPer (fun vs H Q E h => ?_) (fun cdv A outer s H vs Q E hg hr h => ?_)
  · obtain ⟨PA, as, ps, rfl, _⟩ := h
    rfl
  · obtain ⟨PA, as, ps, rfl, h2, h4, dv, k⟩ := h
    have hu := hu_of hr
    refine ⟨_, (pss_cons (ps_set (i := 1) scLPer.nd rfl (.inl rfl) pe_int)
      (pss_cons (ps_for PassesOwn.never rfl (pi_list (pv 0)) (pg_tup (by rfl) (pgs_cons (pg_name (i := 2) scLPer.nd rfl (.inl rfl)) (pgs_cons (pg_name (i := 3) scLPer.nd rfl (.inl rfl)) (pgs_cons (pg_name (i := 4) scLPer.nd rfl (.inl rfl)) pgs_nil))))
        (pss_cons (ps_set (i := 5) scLPer.nd rfl (.inl rfl) (pe_lst (pa_cons (pv 1) (pa_cons (pv 4) pa_nil))))
        (pss_cons (ps_for PassesOwn.never rfl (pi_range1 (by rfl) T.zrange (pa_cons pe_int pa_nil)) (pg_name (i := 6) scLPer.nd rfl (.inl rfl))
          (pss_one (ps_set (i := 5) scLPer.nd rfl (.inl rfl) (pe_ifExp (pt_cmpR op_ne (pe_ix ix_list (pv 5) pe_int (fun _ _ => rfl)) pe_int (nomark _)) (pe_lst (pa_cons (pe_ix ix_list (pv 5) pe_int (fun _ _ => rfl)) (pa_cons (pe_op op_mod (pe_callTy call_int1 (by rfl) T.zint (by decide +kernel) (pa_cons (pe_ix ix_list (pv 5) pe_int (fun _ _ => rfl)) pa_nil)) (pe_ix ix_list (pv 5) pe_int (fun _ _ => rfl))) pa_nil))) (pv 5)))))
        (pss_one (ps_set (i := 1) scLPer.nd rfl (.inl rfl) (pe_op op_fdivW (pe_op op_mul (pv 1) (pv 4)) (pe_ix ix_list (pv 5) pe_int (fun _ _ => rfl))))))))
      (pss_one (ps_ret (pv 1))))), ?_⟩
    have dvd : ∀ i, lcmOf (ps.take i) ∣ 420 := fun i => lcm_dvd (ps.take i) 1 (Nat.one_dvd 420) fun p m => (dv p (List.mem_of_mem_take m)).2.2
    have below : ∀ i, lcmOf (ps.take i) ≤ 420 := fun i => Nat.le_of_dvd (by decide) (dvd i)
    have pos : ∀ i, 0 < lcmOf (ps.take i) := fun i => Nat.pos_of_dvd_of_pos (dvd i) (by decide)
    refine ⟨_, rfl, PA, rfl, ⟨_, SqL.of h2⟩, ?_⟩
    refine for_it walk_list (fun i σ H1 => ∃ v2 v3 v4 v5 v6 : Option V, σ = [some (.ref PA), some (.int (lcmOf (ps.take i) : Nat)), v2, v3, v4, v5, v6] ∧ Same H H1) ⟨_, _, _, _, _, rfl, Same.refl _⟩ (fun i σ H1 _ ⟨_, _, _, _, _, _, s1⟩ => SqL.of (s1 _ _ h2)) ?_ ?_
    · rintro i y σ H1 H2 hi ⟨v2, v3, v4, v5, v6, rfl, s1⟩ ⟨rfl, hy⟩
      have hi' : i < as.length := by rw [List.length_map] at hi; exact hi
      have hip : i < ps.length := by rw [← h4.1]; exact hi'
      obtain rfl : V.ref as[i] = y := by
        rw [List.getElem?_map, List.getElem?_eq_getElem hi'] at hy
        exact Option.some.inj hy
      have pa : H as[i] = some (.tup [.str ps[i].1, .int ps[i].2.1, .int ps[i].2.2]) := h4.2 i _ _ (List.getElem?_eq_getElem hi') (List.getElem?_eq_getElem hip)
      obtain ⟨d1, d12, d2⟩ := dv _ (List.getElem_mem hip)
      obtain ⟨st, est⟩ : ∃ st : Nat, ps[i].2.2 = (st : Int) := ⟨ps[i].2.2.toNat, (Int.toNat_of_nonneg (by omega)).symm⟩
      have est2 : ps[i].2.2.toNat = st := by rw [est]; exact Int.toNat_natCast st
      rw [est] at pa d1 d12
      have pos := pos i
      have below := below i
      have stp : lcmOf (ps.take (i + 1)) = Nat.lcm (lcmOf (ps.take i)) st := by rw [lcm_step ps i hip, est2]
      rw [stp]
      generalize lcmOf (ps.take i) = a at pos below
      refine ⟨as[i], _, rfl, SqT.of (s1 _ _ pa), rfl, _, _, rfl, _, _, rfl, _, _, rfl, rfl, ?_⟩
      refine ⟨_, rfl, _, rfl, (by show 2 ≤ sizeLine; decide), fun R nR => ?_⟩
      have s3 := s1.trans (same_new (o := .lst [.int (a : Nat), .int (st : Nat)]) nR)
      have hR := upd_same (H := H2) (a := R) (o := .lst [.int (a : Nat), .int (st : Nat)])
      revert s3 hR
      generalize upd H2 R (.lst [.int (a : Nat), .int (st : Nat)]) = H3
      intro s3 hR
      have sg : Nat.gcd a st ≤ 60 := Nat.le_trans (Nat.le_of_dvd (by omega) (Nat.gcd_dvd_right a st)) (by omega)
      have g0 : 0 < Nat.gcd a st := Nat.gcd_pos_of_pos_left _ pos
      refine ⟨12, rfl, by decide, by decide, ?_⟩
      refine for_range (lo := 0) (fun j σ H4 => ∃ (v6 : Option V) (R : Addr) (x y : Nat), σ = [some (.ref PA), some (.int (a : Nat)), some (.str ps[i].1), some (.int ps[i].2.1), some (.int (st : Nat)), some (.ref R), v6] ∧ Same H H4 ∧ H4 R = some (.lst [.int (x : Nat), .int (y : Nat)]) ∧ Nat.gcd x y = Nat.gcd a st ∧ doneE (12 - j) x y = true) ⟨_, R, a, st, rfl, s3, hR, rfl, doneE_all (by omega)⟩ ?_ ?_
      · rintro j σ H4 hj ⟨v6, R, x, y, rfl, s4, hR, eg, ly⟩
        refine ⟨_, rfl, R, _, 1, _, rfl, rfl, SqL.of hR, rfl, rfl, _, rfl, ?_⟩
        rw [dec_V]
        by_cases y0 : y = 0
        · subst y0
          refine iteF ?_
          exact ⟨_, rfl, _, R, x, 0, rfl, s4, hR, eg, doneE_zero⟩
        · rw [decide_eq_false (show ¬ (y : Int) = 0 by omega)]
          refine iteT ?_
          have hm : x % y < y := Nat.mod_lt x (by omega)
          refine ⟨_, rfl, R, _, 1, _, rfl, rfl, SqL.of hR, rfl, _, rfl, R, _, 0, _, rfl, rfl, SqL.of hR, rfl, .inl ⟨_, rfl, _, rfl, R, _, 1, _, rfl, rfl, SqL.of hR, rfl, _, _, rfl, rfl, by omega, (by show 2 ≤ sizeLine; decide), fun R2 nR2 => ?_⟩⟩
          refine ⟨_, R2, y, x % y, rfl, s4.trans (same_new nR2), upd_same, ?_, ?_⟩
          · rw [← eg, Nat.gcd_comm x y, Nat.gcd_rec y x, Nat.gcd_comm]
          · rw [show 12 - j = (12 - (j + 1)) + 1 by omega] at ly
            exact doneE_next y0 ly
      · rintro σ H4 ⟨v6, R, x, y, rfl, s4, hR, eg, ly⟩
        obtain rfl : y = 0 := doneE_end ly
        rw [Nat.gcd_zero_right] at eg
        subst eg
        refine ⟨_, rfl, _, rfl, _, _, rfl, rfl, .inl ⟨by omega, by omega⟩, ?_⟩
        refine ⟨_, rfl, R, _, 0, _, rfl, rfl, SqL.of hR, rfl, _, _, rfl, rfl, ?_, ?_⟩
        · have m : (a : Int) * (st : Int) = ((a * st : Nat) : Int) := (Int.natCast_mul ..).symm
          have m2 : a * st ≤ 420 * 60 := Nat.mul_le_mul below (by omega)
          rw [m]
          exact wide_div (b := 60) (by omega) (by omega) (by omega) (by omega)
        have e : V.int ((a : Int) * (st : Int) / (Nat.gcd a st : Nat)) = V.int (Nat.lcm a st : Nat) := by
          rw [← Int.natCast_mul, ← Int.natCast_ediv]
          rfl
        exact ⟨_, _, _, _, _, congrArg (fun z => [some (V.ref PA), some z, some (V.str ps[i].1), some (V.int ps[i].2.1), some (V.int (st : Nat)), some (V.ref R), v6]) e, s4⟩
    · rintro σ H1 ⟨_, _, _, _, _, rfl, s1⟩
      refine ⟨_, rfl, ?_⟩
      rw [List.take_of_length_le (by rw [List.length_map, h4.1]; exact Nat.le_refl _)]
      exact k H1 s1
end
end K14
namespace K14
open PySem PySem.Spec L2 Rt
open PyProof.Rows hiding St

/-- a drawn point -/
structure PtW (p : Pt) : Prop where
  wd : Word p.1
  s1 : 1 ≤ p.2.2
  s12 : p.2.2 ≤ 12
  dv : p.2.2.toNat ∣ 420
  f1 : -1000000012 ≤ p.2.1
  f2 : p.2.1 ≤ 1000000012
def spLPts : Sp := fun vs H Q _ => ∃ (d c : Addr) (n : Nat), vs = [.ref d, .int n] ∧ Src H d c ∧ n ≤ 40 ∧
  ∀ (PA : Addr) (as : List Addr) (ps : List Pt) (H' : Hp), mask d c H' PA = some (.lst (as.map V.ref)) → Row ptV (mask d c H') as ps → ps.length = n → (namesOf ps).Nodup → (∀ p, p ∈ ps → PtW p) → Src H' d c → Keep d c H H' → Q (.ref PA) H'
theorem far_of {z : Int} (h : z ∈ ([0, 0, 0, 10 ^ 9] : List Int)) : 0 ≤ z ∧ z ≤ 1000000000 := by
  simp only [List.mem_cons, List.not_mem_nil, or_false] at h
  rcases h with e | e | e | e <;> subst e <;> decide
section
variable {P : Program} {w : World} {K : PySem.W.Frag} {mg : Str → Option Value} {base : Heap} {f C : Addr} {fd : FuncData}

end
end K14
namespace K14
open PySem PySem.Spec L2 Rt
open PyProof.Rows hiding St
/-! ### points as data -/
def pd (p : Pt) : PyData := .tuple [.str p.1, .int p.2.1, .int p.2.2]
theorem sgn_small : ∀ x, x ∈ SGN.cps.toList → x < 1114112 := by decide +kernel
theorem Word.ok {x : Str} (h : Word x) : PyData.strOk x = true := by
  show x.cps.all (fun y => decide (y < 1114112)) = true
  rw [← Array.all_toList, List.all_eq_true]
  exact fun y m => decide_eq_true (sgn_small y (h.sg y m))
theorem lay_pts : ∀ ps : List Pt, (∀ p, p ∈ ps → Word p.1) → PyData.canLayAll0 (ps.map pd) = true
  | [], _ => by simp [PyData.canLayAll0]
  | p :: ps, hw => by
    have h := lay_pts ps fun q m => hw q (List.mem_cons_of_mem _ m)
    have h2 := (hw p List.mem_cons_self).ok
    simp [PyData.canLayAll0, PyData.canLay0, pd, h, h2]
theorem depth_pts : ∀ ps : List Pt, PyData.depthAll (ps.map pd) ≤ 1
  | [] => by simp [PyData.depthAll]
  | p :: ps => by
    have h := depth_pts ps
    simp [PyData.depthAll, PyData.depth, pd]
    omega
theorem shaped_pts (ps : List Pt) (hw : ∀ p, p ∈ ps → Word p.1) : SeqAt.shaped (.list (ps.map pd)) = true := by
  have h := depth_pts ps
  unfold SeqAt.shaped
  simp [PyData.canLay0, lay_pts ps hw, PyData.depth]
  omega
theorem dp_pts {K : PySem.W.Frag} {H : Hp} : ∀ (as : List Addr) (ps : List Pt), Row ptV H as ps → DpAll K H (as.map V.ref) (ps.map pd)
  | [], [], _ => .nil
  | [], _ :: _, r => absurd r.1 (by simp)
  | _ :: _, [], r => absurd r.1 (by simp)
  | a :: as, p :: ps, r => .cons (.tup (SqT.of (r.2 0 a p rfl rfl)) (.cons (.str _) (.cons (.int _) (.cons (.int _) .nil)))) (dp_pts as ps ⟨by have := r.1; simp at this; exact this, fun i b q h1 h2 => r.2 (i + 1) b q h1 h2⟩)
theorem eqv_nil (ps : List Pt) : PyData.eqv (.list (ps.map pd)) (.list []) = decide (ps = []) := by
  cases ps with
  | nil => simp [PyData.eqv, PyData.eqvAll]
  | cons p ps => simp [PyData.eqv, PyData.eqvAll]
def spLRls : Sp := fun vs H Q _ => ∃ (d c PA SA : Addr) (as : List Addr) (ps : List Pt) (n : Nat) (zs : List Int), vs = [.ref d, .ref PA, .int n, .ref SA] ∧ Src H d c ∧ mask d c H PA = some (.lst (as.map V.ref)) ∧ Row ptV (mask d c H) as ps ∧ ps.length ≤ 40 ∧ (∀ p, p ∈ ps → PtW p) ∧ n ≤ 50 ∧
  mask d c H SA = some (.lst (zs.map V.int)) ∧ 0 < zs.length ∧ zs.length ≤ 100 ∧ (namesOf ps).Nodup ∧
  ∀ (RA : Addr) (bs : List Addr) (rs : List Rl) (T : Nat → Int) (H' : Hp), mask d c H' RA = some (.lst (bs.map V.ref)) → Row rlV (mask d c H') bs rs → rs.length ≤ n → (∀ r, r ∈ rs → r.1 ∈ namesOf ps ∧ r.2.1 ∈ namesOf ps) →
    (∀ p, p < ps.length → (T p - fN ps p) % sN ps p = 0) → (∀ k i j l, RuleAt ps rs k i j l → ∃ z, (z = 0 ∨ z ∈ zs) ∧ T i + l ≤ T j + z) → Src H' d c → Keep d c H H' → Q (.ref RA) H'
theorem six_of {z : Int} (h : z ∈ ([0, 0, 1, 2, 3, 6] : List Int)) : 0 ≤ z := by
  simp only [List.mem_cons, List.not_mem_nil, or_false] at h
  rcases h with e | e | e | e | e | e <;> subst e <;> decide
theorem Keep.free {d c p : Addr} {H H' : Hp} (a : Keep d c H H') (n : p ≠ d ∧ p ≠ c) (h : H' p = none) : H p = none := by
  cases e : H p with
  | none => rfl
  | some o =>
    rw [a p o e n.1 n.2] at h
    cases h
theorem tC_fin {v : V} {σ : L2.St} {H : Hp} {k : V → Hp → Prop} (h : ∀ x, x = v → k x H) : tC v σ H k := h v rfl
theorem away_of {d c p : Addr} {o : HO} {H : Hp} (h : mask d c H p = some o) : p ≠ d ∧ p ≠ c := by
  constructor
  · intro z
    subst z
    simp [mask] at h
  · intro z
    subst z
    simp [mask] at h
section
variable {P : Program} {w : World} {K : PySem.W.Frag} {mg : Str → Option Value} {base : Heap} {f C : Addr} {fd : FuncData}

end
end K14
namespace K14
open PySem PySem.Spec L2 Rt
open PyProof.Rows hiding St
theorem merge3 {a b c : Str} {x y z : V} (h1 : ¬ a = b) (h2 : ¬ a = c) (h3 : ¬ b = c) : mergeK [] [((Sum.inr a : Key), x), (Sum.inr b, y), (Sum.inr c, z)] = [(Sum.inr a, x), (Sum.inr b, y), (Sum.inr c, z)] := by
  have g1 := ne_inr h1
  have g2 := ne_inr h2
  have g3 := ne_inr h3
  unfold mergeK putK
  simp [g1, g2, g3]
theorem pf_ne {xs : List Str} {c : Addr} {l m t : Int} : placesFrom 0 xs ≠ srcK c l m t := by
  intro h
  cases xs with
  | nil => cases h
  | cons x xs =>
    have := congrArg (fun l => l.head?.map Prod.snd) h
    cases this
theorem NetAt.msk {H : Hp} {C d c n : Addr} {ps : List Pt} {rs : List Rl} (h : NetAt H C n ps rs) (S : Src H d c) : NetAt (mask d c H) C n ps rs := by
  obtain ⟨dx, PA, RA, DA, as, bs, h1, h2, h3, h4, h5, h6⟩ := h.ex
  obtain ⟨ks, l, m, t, g1, g2⟩ := S.ex
  refine ⟨dx, PA, RA, DA, as, bs, mask_at ⟨ne_of h1 g1 (by intro z; cases z), ne_of h1 g2 (by intro z; cases z)⟩ h1, mask_at (S.nd h2) h2, mask_at (S.nd h3) h3, mask_at ⟨ne_of h4 g1 (by intro z; exact pf_ne (HO.dK.inj z)), ne_of h4 g2 (by intro z; cases z)⟩ h4, ?_, ?_⟩
  · exact ⟨h5.1, fun i a p e1 e2 => mask_at (S.nd (h5.2 i a p e1 e2)) (h5.2 i a p e1 e2)⟩
  · exact ⟨h6.1, fun i a p e1 e2 => mask_at (S.nd (h6.2 i a p e1 e2)) (h6.2 i a p e1 e2)⟩
/-- the law's world of a network -/
def wdK (PA RA n : Addr) : List (Key × V) := [(Sum.inr "points", .ref PA), (Sum.inr "rules", .ref RA), (Sum.inr "made", .ref n)]
structure LWd (C : Addr) (M : Hp) (wd : Addr) (ps : List Pt) (rs : List Rl) : Prop where
  ex : ∃ (PA RA n : Addr) (as bs : List Addr), M wd = some (.dK (wdK PA RA n)) ∧ M PA = some (.lst (as.map V.ref)) ∧ M RA = some (.lst (bs.map V.ref)) ∧ Row ptV M as ps ∧ Row rlV M bs rs ∧ NetAt M C n ps rs
theorem LWd.same {C : Addr} {M M' : Hp} {wd : Addr} {ps : List Pt} {rs : List Rl} (h : LWd C M wd ps rs) (s : Same M M') : LWd C M' wd ps rs := by
  obtain ⟨PA, RA, n, as, bs, h1, h2, h3, h4, h5, h6⟩ := h.ex
  exact ⟨PA, RA, n, as, bs, s _ _ h1, s _ _ h2, s _ _ h3, h4.same s, h5.same s, h6.same s⟩
theorem getP {H : Hp} {wd PA RA n : Addr} (h : H wd = some (.dK (wdK PA RA n))) : DGet H wd (.str "points") (some (.ref PA)) := by
  have g := get_k (x := "points") h
  unfold wdK at g
  rwa [valV_pos rfl] at g
theorem getR {H : Hp} {wd PA RA n : Addr} (h : H wd = some (.dK (wdK PA RA n))) : DGet H wd (.str "rules") (some (.ref RA)) := by
  have g := get_k (x := "rules") h
  unfold wdK at g
  rwa [valV_neg (ne_inr (by decide +kernel)), valV_pos rfl] at g
theorem getM {H : Hp} {wd PA RA n : Addr} (h : H wd = some (.dK (wdK PA RA n))) : DGet H wd (.str "made") (some (.ref n)) := by
  have g := get_k (x := "made") h
  unfold wdK at g
  rwa [valV_neg (ne_inr (by decide +kernel)), valV_neg (ne_inr (by decide +kernel)), valV_pos rfl] at g
def spLWorld (C : Addr) : Sp := fun vs H Q _ => ∃ (d c SA : Addr) (most many : Nat) (zs : List Int), vs = [.ref d, .int most, .int many, .ref SA] ∧ Src H d c ∧ most ≤ 30 ∧ many ≤ 40 ∧ mask d c H SA = some (.lst (zs.map V.int)) ∧ 0 < zs.length ∧ zs.length ≤ 100 ∧
  ∀ (wd : Addr) (ps : List Pt) (rs : List Rl) (T : Nat → Int) (H' : Hp), LWd C (mask d c H') wd ps rs → ps.length ≤ most → rs.length ≤ many → (∀ p, p ∈ ps → PtW p) → Fits ps rs 420 →
    (∀ p, p < ps.length → (T p - fN ps p) % sN ps p = 0) → (∀ k i j l, RuleAt ps rs k i j l → ∃ z, (z = 0 ∨ z ∈ zs) ∧ T i + l ≤ T j + z) → Src H' d c → Keep d c H H' → Q (.ref wd) H'
section
variable {P : Program} {w : World} {K : PySem.W.Frag} {mg : Str → Option Value} {base : Heap} {f C : Addr} {fd : FuncData}

end
end K14
/-! own rule: zip of two values each of which is a list or a tuple, under a target of two names -/
namespace Rt
open PySem PySem.Spec L2
open PyProof.Rows hiding St
abbrev ItA (t : Bool) (h : Heap) (i a : Addr) (k : Nat) : Prop := match t with | true => h.IsTupleIter i a k | false => h.IsListIter i a k
abbrev SA (t : Bool) (h : Heap) (a : Addr) (items : Array Value) : Prop := match t with | true => h.IsTuple a items | false => h.IsList a items
abbrev SqA (t : Bool) (K : PySem.W.Frag) (H : Hp) (a : Addr) (xs : List V) : Prop := match t with | true => SqT K H a xs | false => SqL K H a xs
def itO (t : Bool) (a : Addr) : Obj := match t with | true => { cls := .type "tuple_iterator", data := .fields #[.ref a, .int 0 0] } | false => { cls := .type "list_iterator", data := .fields #[.ref a, .int 0 0] }
theorem drawsA {prog : Program} {w : World} {A : Around} (t : Bool) (hh : A.handled = none) (it a : Addr) (hne : a ≠ it) (items : Array Value) :
    Draws prog w A it [it, a] items.size (fun i v => items[i]? = some v) (fun i h => ItA t h it a i ∧ SA t h a items) := by
  cases t
  · exact .list hh it a hne items
  · exact .tuple hh it a hne items
theorem beginsA (t : Bool) (a : Addr) (items : Array Value) : Begins (.ref a) (itO t a) fun h => SA t h a items := by
  cases t
  · exact begins_list a items
  · exact begins_tuple a items
theorem ItA.at {t : Bool} {h h' : Heap} {i a : Addr} {k : Nat} (x : ItA t h i a k) (e : ∀ o, h.get? i = some o → h'.get? i = some o) : ItA t h' i a k := by
  cases t
  · exact Heap.IsListIter.at x e
  · exact Heap.IsTupleIter.at x e
theorem ItA.obj {t : Bool} {h : Heap} {i a : Addr} {k : Nat} (x : ItA t h i a k) : ∃ o, h.get? i = some o ∧ ∀ v, o.data ≠ .cell v := by
  cases t
  · obtain ⟨o, e, _, d⟩ := x
    exact ⟨o, e, fun v q => by rw [d] at q; cases q⟩
  · obtain ⟨o, e, _, d⟩ := x
    exact ⟨o, e, fun v q => by rw [d] at q; cases q⟩
theorem itO_at {t : Bool} {h : Heap} {i a : Addr} (e : h.get? i = some (itO t a)) : ItA t h i a 0 := by
  cases t
  · exact ⟨_, e, rfl, rfl⟩
  · exact ⟨_, e, rfl, rfl⟩
theorem SA.obj {t : Bool} {h : Heap} {a : Addr} {items : Array Value} (x : SA t h a items) : ∃ o, h.get? a = some o := by
  cases t
  · obtain ⟨o, e, _⟩ := x
    exact ⟨o, e⟩
  · obtain ⟨o, e, _⟩ := x
    exact ⟨o, e⟩
section
variable {X : Cx} {pins : List (Addr × Obj)} {σ : St} {H : Hp} {s : Shared} {a : Addr} {xs ys : List V}
theorem inv_seqA (t : Bool) (I : Inv X pins σ H s) (h : SqA t X.K H a xs) : ∃ its : List Value, Vals xs its ∧ SA t s.heap a its.toArray := by
  cases t
  · obtain ⟨its, rv, p, _⟩ := I.list h
    exact ⟨its, rv, p.isList⟩
  · obtain ⟨its, rv, p, _⟩ := I.tuple h
    exact ⟨its, rv, p⟩
theorem inv_injA (t : Bool) (I : Inv X pins σ H s) (h : SqA t X.K H a xs) (h' : SqA t X.K H a ys) : xs = ys := by
  cases t
  · exact I.list_inj h h'
  · exact I.tuple_inj h h'
end
/-- two sequences, their items in new pairs -/
def ItzA (t u : Bool) (K : PySem.W.Frag) (a b : Addr) : It where
  go i H := ∃ (xs ys : List V) (x y : V), SqA t K H a xs ∧ SqA u K H b ys ∧ xs[i]? = some x ∧ ys[i]? = some y
  yld i H v H' := ∃ (T : Addr) (x y : V), v = .ref T ∧ H T = none ∧ H' = upd H T (.tup [x, y]) ∧ (∀ xs, SqA t K H a xs → xs[i]? = some x) ∧ ∀ ys, SqA u K H b ys → ys[i]? = some y
  stop i H := ∃ xs ys : List V, SqA t K H a xs ∧ SqA u K H b ys ∧ i ≤ xs.length ∧ i ≤ ys.length ∧ (i = xs.length ∨ i = ys.length)
def ZnA (t u : Bool) (z TI TO i1 i2 a b : Addr) (i : Nat) (h : Heap) : Prop := IsZip h z TI TO .none ∧ IsTupOf2 h TI (.ref i1) (.ref i2) ∧ (∃ x y, IsTupOf2 h TO x y) ∧ ItA t h i1 a i ∧ ItA u h i2 b i
theorem fiveA {z TI TO i1 i2 c : Addr} (h : c ∈ [z, TI, TO, i1, i2]) : c = z ∨ c = TI ∨ c = TO ∨ c = i1 ∨ c = i2 := by simpa using h
theorem sep_of {z TI TO i1 i2 a b : Addr} (D : ZipApart z TI TO i1 i2 a b) : ZipSep2 z TI TO i1 i2 [i1, a] [i2, b] where
  TIz := D.TIz
  TOz := D.TOz
  TITO := D.TITO
  TIi1 := D.TIi1
  mem1 := List.mem_cons_self
  zf1 := fun h => by
    rcases List.mem_cons.mp h with e | h
    · exact D.i1z e.symm
    · exact D.l1z (List.mem_singleton.mp h).symm
  Tf1 := fun h => by
    rcases List.mem_cons.mp h with e | h
    · exact D.TOi1 e
    · exact D.l1TO (List.mem_singleton.mp h).symm
  TIi2 := D.TIi2
  mem2 := List.mem_cons_self
  zf2 := fun h => by
    rcases List.mem_cons.mp h with e | h
    · exact D.i2z e.symm
    · exact D.l2z (List.mem_singleton.mp h).symm
  Tf2 := fun h => by
    rcases List.mem_cons.mp h with e | h
    · exact D.TOi2 e
    · exact D.l2TO (List.mem_singleton.mp h).symm
  sep1_2 := fun h => by
    rcases List.mem_cons.mp h with e | h
    · exact D.i12 e
    · exact D.l2i1 (List.mem_singleton.mp h).symm
  sep2_1 := fun h => by
    rcases List.mem_cons.mp h with e | h
    · exact D.i12 e.symm
    · exact D.l1i2 (List.mem_singleton.mp h).symm
theorem turn_zA {P : Program} {w : World} {K : PySem.W.Frag} {elts : List Expr} {kk : Nat} {tpos : Pos} {t u : Bool} {a b z TI TO i1 i2 : Addr} (D : ZipApart z TI TO i1 i2 a b) :
    Turn P w K (.Tuple elts kk tpos) (ItzA t u K a b) [z, TI, TO, i1, i2] z (ZnA t u z TI TO i1 i2 a b) := by
  refine ⟨by simp, ?_, ?_, ?_, ?_, ?_⟩
  · rintro i h ⟨hz, hI, ⟨x, y, hO⟩, u1, u2⟩ c hc
    rcases fiveA hc with rfl | rfl | rfl | rfl | rfl
    · exact ⟨_, hz, fun v q => nomatch q⟩
    · exact ⟨_, hI, fun v q => nomatch q⟩
    · exact ⟨_, hO, fun v q => nomatch q⟩
    · exact u1.obj
    · exact u2.obj
  · rintro i h h' ⟨hz, hI, ⟨x, y, hO⟩, u1, u2⟩ k
    exact ⟨k z (by simp) _ hz, k TI (by simp) _ hI, ⟨x, y, k TO (by simp) _ hO⟩, u1.at fun o q => k i1 (by simp) o q, u2.at fun o q => k i2 (by simp) o q⟩
  · intro X hP hw hK hc i pins s σ H E I free st hg
    subst hP hw hK
    obtain ⟨hz, hI, ⟨x0, y0, hO⟩, u1, u2⟩ := st
    obtain ⟨xs, ys, x, y, qx, qy, hx, hy⟩ := hg
    obtain ⟨its, rv, p⟩ := inv_seqA t I qx
    obtain ⟨its2, rv2, p2⟩ := inv_seqA u I qy
    obtain ⟨v1, hv1, r1⟩ := rv.get hx
    obtain ⟨v2, hv2, r2⟩ := rv2.get hy
    have hh : X.A.in1.handled = none := I.ok.hd hc
    have l1 := (List.getElem?_eq_some_iff.mp hv1).1
    have l2 := (List.getElem?_eq_some_iff.mp hv2).1
    refine wpAny_pyNext_zipD2_item (sep_of D) (drawsA t hh i1 a D.l1i1 its.toArray) (drawsA u hh i2 b D.l2i2 its2.toArray) hz hI hO (i := i) ⟨u1, p⟩ ⟨u2, p2⟩ (by simpa using l1) (by simpa using l2) fun w1 w2 h' tk e1 e2 zz oo n1 n2 pn sz stay => ?_
    have e1 : its.toArray[i]? = some w1 := e1
    have e2 : its2.toArray[i]? = some w2 := e2
    rw [List.getElem?_toArray, hv1] at e1
    rw [List.getElem?_toArray, hv2] at e2
    cases e1
    cases e2
    have zl := Heap.lt_size hz
    refine ⟨_, rfl, wpAny_letOwnedTupleGo_zip (s := { s with heap := h', toks := tk }) zz fun h'' z'' sb => ?_⟩
    have pn2 : IsTupOf2 h'' s.heap.objs.size v1 v2 := (sb.2 _ (Nat.ne_of_gt zl)).trans pn
    have new : ObjOk X.prog X.w (upd H s.heap.objs.size (.tup [x, y])) h'' s.heap.objs.size (.tup [x, y]) := ⟨by show 2 ≤ sizeLine; decide, [v1, v2], .cons r1 (.cons r2 .nil), ⟨_, pn2, rfl, _, rfl⟩⟩
    have stay2 : ∀ c o, c ≠ z → c ≠ TO → c ≠ i1 → c ≠ i2 → s.heap.get? c = some o → h''.get? c = some o := fun c o n1 n2 n3 n4 e => (sb.2 c n1).trans (stay c o n1 n2 n3 n4 e)
    have I1 : Inv X pins σ (upd H s.heap.objs.size (.tup [x, y])) { s with heap := h'', toks := tk } :=
      I.turnedNew (t' := tk) (ch := [z, TI, TO, i1, i2]) (fun c o out q => stay2 c o (fun e => out (by simp [e])) (fun e => out (by simp [e])) (fun e => out (by simp [e])) (fun e => out (by simp [e])) q) free (Nat.le_refl _) new
    have hI' : IsTupOf2 h'' TI (.ref i1) (.ref i2) := stay2 _ _ D.TIz D.TITO D.TIi1 D.TIi2 hI
    refine ⟨.ref s.heap.objs.size, _, I1, rfl, ⟨_, x, y, rfl, I.hok.fresh (Nat.le_refl _), rfl, fun l hl => by rw [inv_injA t I hl qx]; exact hx, fun l hl => by rw [inv_injA u I hl qy]; exact hy⟩, ⟨z'', hI', ⟨v1, v2, (sb.2 _ D.TOz).trans oo⟩, n1.1.at fun o q => (sb.2 _ D.i1z).trans q, n2.1.at fun o q => (sb.2 _ D.i2z).trans q⟩, fun c hcm => ?_⟩
    have lt : c < s.heap.objs.size := by
      rcases fiveA hcm with rfl | rfl | rfl | rfl | rfl
      · exact Heap.lt_size hz
      · exact Heap.lt_size hI
      · exact Heap.lt_size hO
      · obtain ⟨_, e, _⟩ := u1.obj
        exact Heap.lt_size e
      · obtain ⟨_, e, _⟩ := u2.obj
        exact Heap.lt_size e
    rw [upd_ne (Nat.ne_of_lt lt)]
    exact (free c hcm).1
  · intro X hP hw hK hc i pins s σ H E I free st hg
    subst hP hw hK
    obtain ⟨hz, hI, ⟨x0, y0, hO⟩, u1, u2⟩ := st
    obtain ⟨xs, ys, qx, qy, le1, le2, en⟩ := hg
    obtain ⟨its, rv, p⟩ := inv_seqA t I qx
    obtain ⟨its2, rv2, p2⟩ := inv_seqA u I qy
    have same := rv.length
    have same2 := rv2.length
    have hh : X.A.in1.handled = none := I.ok.hd hc
    refine wpAny_pyNext_zipD2_end (sep_of D) (drawsA t hh i1 a D.l1i1 its.toArray) (drawsA u hh i2 b D.l2i2 its2.toArray) hz hI hO (i := i) ⟨u1, p⟩ ⟨u2, p2⟩ (by simp; omega) (by simp; omega) (by simp; omega) fun h' tk stay => ⟨rfl, I.turnedL (t' := tk) (ch := [z, TI, TO, i1, i2]) (fun c o out q => ?_) free⟩
    exact stay c o (fun e => out (by simp [e])) (fun e => out (by simp [e])) (fun e => out (by simp [e])) (fun e => out (by simp [e])) q
  · rintro A i s Q E ⟨hz, _⟩ h
    exact wpAny_pyIter_zip hz h
def iZipS (K : PySem.W.Frag) (ta : TA) : TI := fun σ H R => ta σ H fun vs H1 => ∃ (t u : Bool) (a b : Addr) (xs ys : List V), vs = [.ref a, .ref b] ∧ SqA t K H1 a xs ∧ SqA u K H1 b ys ∧ R (ItzA t u K a b) H1
theorem pi_zipS {X : Cx} {e e2 : Expr} {ta : TA} {p pos tpos : Pos} {elts : List Expr} {kk : Nat} (hg : Gl X "zip") (hm : X.mg "zip" = none) (ha : PA X [e, e2] ta)
    (hs : starEach [e, e2] X.env = (false, eval e X.env) :: starEach [e2] X.env := by rfl) (hpl : (backTo pos (starEach [e2] X.env)).any (·.1) = false := by rfl) :
    PI X (.Tuple elts kk tpos) (.Call (.Name "zip" p) [e, e2] [] pos) (iZipS X.K ta) := by
  refine ⟨fun pins s σ H R I h => ?_⟩
  refine Call_ (ld_blt I hg hm PyProof.Rows.boot_zip (PyProof.Rows.callWith_type1 (thn (ha.run pos pins s σ H _ I h) fun us s1 ⟨vs, H1, J, rv, q1⟩ => ?_) hs hpl))
  obtain ⟨t, u, a, b, xs, ys, ex, qx, qy, now⟩ := q1
  subst ex
  obtain ⟨w1, w2, rfl, r1, r2⟩ := vals2 rv
  cases r1
  cases r2
  obtain ⟨its, rx, p1⟩ := inv_seqA t J qx
  obtain ⟨its2, ry, p2⟩ := inv_seqA u J qy
  obtain ⟨o1, ho1⟩ := p1.obj
  obtain ⟨o2, ho2⟩ := p2.obj
  refine zip_begins2 (beginsA t a its.toArray) (beginsA u b its2.toArray) p1 p2 fun h' hz hI hO v1 v2 size keep => wpAny_pyIter_zip hz ?_
  have J2 : Inv X pins σ H1 { s1 with heap := h' } := J.kept (t' := s1.toks) keep
  refine ⟨s1.heap.objs.size + 4, [s1.heap.objs.size + 4, s1.heap.objs.size + 2, s1.heap.objs.size + 3, s1.heap.objs.size, s1.heap.objs.size + 1], _, _, H1, rfl, J2, turn_zA (PySem.W.ktu_apart s1.heap.objs.size a b (Heap.lt_size ho1) (Heap.lt_size ho2)), ⟨hz, hI, ⟨_, _, hO⟩, itO_at v1, itO_at v2⟩, fun c hc => ?_, now⟩
  have le : s1.heap.objs.size ≤ c := by
    rcases fiveA hc with rfl | rfl | rfl | rfl | rfl <;> omega
  exact J.fpOk le (J.hok.fresh le)
theorem walk_zA {K : PySem.W.Frag} {t u : Bool} {a b : Addr} {xs ys : List V} (same : xs.length = ys.length) : Walk (ItzA t u K a b) xs.length (fun H => SqA t K H a xs ∧ SqA u K H b ys) (YPair (fun i => xs[i]?) (fun i => ys[i]?)) := by
  refine ⟨fun i H lt ⟨h1, h2⟩ => ⟨xs, ys, xs[i], ys[i]'(by omega), h1, h2, List.getElem?_eq_getElem lt, List.getElem?_eq_getElem (by omega)⟩, fun H ⟨h1, h2⟩ => ⟨xs, ys, h1, h2, Nat.le_refl _, by omega, .inl rfl⟩, ?_⟩
  rintro i H v H' lt ⟨h1, h2⟩ ⟨T, x, y, rfl, nT, rfl, q1, q2⟩
  exact ⟨T, x, y, rfl, nT, rfl, q1 xs h1, q2 ys h2⟩
end Rt
/-! own: dicts by names in a row -/
namespace Rt
open PySem PySem.Spec L2
open PyProof.Rows hiding St
def dictOf (xs : List Str) (vs : List V) : List (Key × V) := List.zipWith (fun x v => ((Sum.inr x : Key), v)) xs vs
theorem dictOf_len {xs : List Str} {vs : List V} (l : vs.length = xs.length) : (dictOf xs vs).length = xs.length := by
  unfold dictOf
  rw [List.length_zipWith, l, Nat.min_self]
theorem dictOf_no : ∀ (xs : List Str) (vs : List V) (x : Str), x ∉ xs → valV (dictOf xs vs) (Sum.inr x) = none
  | [], _, _, _ => rfl
  | _ :: _, [], _, _ => rfl
  | y :: xs, v :: vs, x, n => by
    show valV ((Sum.inr y, v) :: dictOf xs vs) (Sum.inr x) = none
    rw [valV_neg (fun e => n (by rw [Sum.inr.inj e]; exact List.mem_cons_self))]
    exact dictOf_no xs vs x fun m => n (List.mem_cons_of_mem _ m)
theorem dictOf_val : ∀ (xs : List Str) (vs : List V) (i : Nat) (x : Str) (v : V), xs.Nodup → xs[i]? = some x → vs[i]? = some v → valV (dictOf xs vs) (Sum.inr x) = some v
  | [], _, _, _, _, _, h, _ => nomatch h
  | _ :: _, [], _, _, _, _, _, h => nomatch h
  | y :: xs, u :: vs, 0, x, v, _, h1, h2 => by
    cases h1
    cases h2
    exact valV_pos rfl
  | y :: xs, u :: vs, i + 1, x, v, nd, h1, h2 => by
    have h1 : xs[i]? = some x := h1
    have h2 : vs[i]? = some v := h2
    obtain ⟨n, nd⟩ := List.nodup_cons.mp nd
    show valV ((Sum.inr y, u) :: dictOf xs vs) (Sum.inr x) = some v
    rw [valV_neg (fun e => n (by rw [Sum.inr.inj e]; exact List.mem_of_getElem? h1))]
    exact dictOf_val xs vs i x v nd h1 h2
theorem putK_cons {k k' : Key} {u v : V} {r : List (Key × V)} (ne : ¬ k' = k) : putK ((k', u) :: r) k v = (k', u) :: putK r k v := by
  unfold putK
  simp only [List.any_cons, List.map_cons, decide_eq_false ne, Bool.false_or, if_neg ne]
  split <;> rfl
theorem map_no : ∀ (xs : List Str) (vs : List V) (x : Str) (v : V), x ∉ xs → (dictOf xs vs).map (fun kv => if kv.1 = Sum.inr x then (kv.1, v) else kv) = dictOf xs vs
  | [], _, _, _, _ => rfl
  | _ :: _, [], _, _, _ => rfl
  | y :: xs, u :: vs, x, v, n => by
    show (List.map _ ((Sum.inr y, u) :: dictOf xs vs)) = (Sum.inr y, u) :: dictOf xs vs
    rw [List.map_cons, map_no xs vs x v fun m => n (List.mem_cons_of_mem _ m)]
    congr 1
    exact if_neg fun e => n (by rw [Sum.inr.inj e]; exact List.mem_cons_self)
theorem dictOf_put : ∀ (xs : List Str) (vs : List V) (i : Nat) (x : Str) (v : V), xs.Nodup → vs.length = xs.length → xs[i]? = some x → putK (dictOf xs vs) (Sum.inr x) v = dictOf xs (vs.set i v)
  | [], _, _, _, _, _, _, h => nomatch h
  | _ :: _, [], _, _, _, _, l, _ => absurd l (by simp)
  | y :: xs, u :: vs, 0, x, v, nd, l, h1 => by
    cases h1
    obtain ⟨n, nd⟩ := List.nodup_cons.mp nd
    show putK ((Sum.inr y, u) :: dictOf xs vs) (Sum.inr y) v = (Sum.inr y, v) :: dictOf xs vs
    unfold putK
    rw [if_pos (by simp), List.map_cons, map_no xs vs y v n]
    simp
  | y :: xs, u :: vs, i + 1, x, v, nd, l, h1 => by
    have h1 : xs[i]? = some x := h1
    obtain ⟨n, nd⟩ := List.nodup_cons.mp nd
    show putK ((Sum.inr y, u) :: dictOf xs vs) (Sum.inr x) v = (Sum.inr y, u) :: dictOf xs (vs.set i v)
    rw [putK_cons (fun e => n (by rw [Sum.inr.inj e]; exact List.mem_of_getElem? h1)), dictOf_put xs vs i x v nd (by simpa using l) h1]
theorem dictOf_snoc : ∀ (xs : List Str) (vs : List V) (x : Str) (v : V), vs.length = xs.length → dictOf (xs ++ [x]) (vs ++ [v]) = dictOf xs vs ++ [(Sum.inr x, v)]
  | [], [], _, _, _ => rfl
  | [], _ :: _, _, _, l => absurd l (by simp)
  | _ :: _, [], _, _, l => absurd l (by simp)
  | y :: xs, u :: vs, x, v, l => by
    show (Sum.inr y, u) :: dictOf (xs ++ [x]) (vs ++ [v]) = (Sum.inr y, u) :: (dictOf xs vs ++ [(Sum.inr x, v)])
    rw [dictOf_snoc xs vs x v (by simpa using l)]
theorem dictOf_new {xs : List Str} {vs : List V} {x : Str} {v : V} (l : vs.length = xs.length) (n : x ∉ xs) : putK (dictOf xs vs) (Sum.inr x) v = dictOf (xs ++ [x]) (vs ++ [v]) := by
  rw [L2.putK_new _ (dictOf_no xs vs x n), dictOf_snoc xs vs x v l]
theorem merge_go : ∀ (ys : List Str) (us : List V) (xs : List Str) (vs : List V), vs.length = xs.length → us.length = ys.length → (xs ++ ys).Nodup → mergeK (dictOf xs vs) (dictOf ys us) = dictOf (xs ++ ys) (vs ++ us)
  | [], [], xs, vs, _, _, _ => by rw [List.append_nil, List.append_nil]; rfl
  | [], _ :: _, _, _, _, l, _ => absurd l (by simp)
  | _ :: _, [], _, _, _, l, _ => absurd l (by simp)
  | y :: ys, u :: us, xs, vs, l1, l2, nd => by
    show mergeK (putK (dictOf xs vs) (Sum.inr y) u) (dictOf ys us) = _
    have n : y ∉ xs := fun m => (List.nodup_append.mp nd).2.2 y m y List.mem_cons_self rfl
    rw [dictOf_new l1 n, merge_go ys us (xs ++ [y]) (vs ++ [u]) (by simp [l1]) (by simpa using l2) (by rw [List.append_assoc]; exact nd), List.append_assoc, List.append_assoc]
    rfl
theorem dictOf_merge {xs : List Str} {vs : List V} (l : vs.length = xs.length) (nd : xs.Nodup) : mergeK [] (dictOf xs vs) = dictOf xs vs := merge_go xs vs [] [] rfl l (by simpa using nd)
end Rt
/-! own rules: a tuple turned round by a slice -/
namespace Rt
open PySem PySem.Spec L2
open PyProof.Rows hiding St
section
variable {prog : Program} {w : World} {A : Around} {E : Value → Shared → Prop} {s : Shared}
theorem slice_back {sl : Addr} {v1 v2 v3 : Value} {n : Nat} {Q : Int × Int × Nat → Shared → Prop} (isS : s.heap.IsSliceOf sl v1 v2 v3) (p1 : IsPart v1 none) (p2 : IsPart v2 none) (p3 : IsPart v3 (some (-1))) (now : Q ((n : Int) - 1, -1, n) s) :
    wpAny (model prog w) A (Builtin.Slice.sliceApplied (.ref sl) (pure (n : Int))) Q E s := by
  obtain ⟨ob, hob, cls, dat⟩ := id isS
  cases p1
  cases p2
  cases p3 with
  | int _ tk =>
    unfold Builtin.Slice.sliceApplied
    unfold Builtin.Slice.sliceFields
    refine wpAny_bind (wpAny_bind (wpAny_field hob dat (x := .none) rfl (wpAny_bind (wpAny_field hob dat (x := .none) rfl (wpAny_bind (wpAny_field hob dat (x := .int (-1) tk) rfl (wpAny_pure ?_)))))))
    refine wpAny_bind (slicePart_int ?_)
    show wpAny _ _ (if ((-1 : Int) == 0) = true then _ else _) _ _ s
    rw [if_neg (by decide)]
    refine wpAny_bind (slicePart_none (wpAny_bind (slicePart_none (wpAny_bind (wpAny_pure ?_)))))
    show wpAny _ _ (pure ((n : Int) - 1, (-1 : Int), Builtin.Slice.slicePlaces ((n : Int) - 1) (-1) (-1))) _ _ s
    have e : Builtin.Slice.slicePlaces ((n : Int) - 1) (-1) (-1) = n := by
      unfold Builtin.Slice.slicePlaces
      rw [if_neg (by decide)]
      split
      · rw [show (-(-1 : Int)) = 1 by decide, Int.ediv_one]
        omega
      · omega
    rw [e]
    exact wpAny_pure now
theorem pick_all {α : Type} : ∀ (n : Nat) (f : Nat → Option α) (ys : List α), ys.length = n → (∀ k, k < n → f k = ys[k]?) → (List.range n).filterMap f = ys
  | 0, f, ys, l, _ => by
    rw [List.eq_nil_of_length_eq_zero l]
    rfl
  | n + 1, f, ys, l, h => by
    rw [List.range_succ, List.filterMap_append, pick_all n f (ys.take n) (by rw [List.length_take]; omega) (fun k hk => by rw [h k (by omega), List.getElem?_take_of_lt hk])]
    have e := h n (Nat.lt_succ_self n)
    have lt : n < ys.length := by omega
    rw [List.getElem?_eq_getElem lt] at e
    have all : ys.take (n + 1) = ys := List.take_of_length_le (by omega)
    rw [List.take_succ, List.getElem?_eq_getElem lt] at all
    show ys.take n ++ [n].filterMap f = ys
    rw [show [n].filterMap f = [ys[n]] by simp [e]]
    exact all
theorem back_pick (xs : Array Value) : ((List.range xs.size).filterMap fun (k : Nat) => xs[((xs.size : Int) - 1 + (k : Int) * (-1)).toNat]?).toArray = xs.toList.reverse.toArray := by
  congr 1
  refine pick_all _ _ _ (by rw [List.length_reverse, Array.length_toList]) fun k lt => ?_
  rw [List.getElem?_reverse (by rw [Array.length_toList]; exact lt), Array.length_toList, Array.getElem?_toList]
  congr 1
  omega
theorem item_back {t sl : Addr} {items : Array Value} {v1 v2 v3 : Value} {Q : Value → Shared → Prop} (htp : IsTup s.heap t items) (isS : s.heap.IsSliceOf sl v1 v2 v3) (p1 : IsPart v1 none) (p2 : IsPart v2 none) (p3 : IsPart v3 (some (-1)))
    (now : Q (.ref s.heap.objs.size) { s with heap := s.heap.push { cls := .type "tuple", data := .seq items.toList.reverse.toArray } }) (small : items.size ≤ sizeLine) : wpAny (model prog w) A (getItem (.ref t) (.ref sl)) Q E s := by
  have fits : sizeOk (.seq items.toList.reverse.toArray) := by
    show items.toList.reverse.toArray.size ≤ sizeLine
    rw [List.size_toArray, List.length_reverse, Array.length_toList]
    exact small
  obtain ⟨ob, hob, cls, dat⟩ := id isS
  have isT : s.TypeIs (.ref sl) "slice" := ⟨ob, hob, cls⟩
  unfold getItem
  try with_reducible refine wpAny_holding ?_
  first | refine wpAny_bind (wpAny_pure ?_) | skip
  refine wpAny_bind (wpAny_sequenceKey htp.typeIs (by decide) ?_)
  refine wpAny_bind (wpAny_callSpecial?_slot (name := Str.ofString "__getitem__") htp.typeIs PyProof.Rows.slot_tuple_getitem (wpAny_call_entry PyProof.Rows.slot_tuple_getitem htp.typeIs entry_tuple_getitem ?_ (args_tuple_getitem _ _)))
  show wpAny _ _ (Builtin.Tuple.tupleItemsOf (.ref t) >>= _) _ _ s
  refine wpAny_bind (tupleItemsOf_ htp (wpAny_bind (wpAny_typeOf isT ?_)))
  rw [if_pos (by decide)]
  refine wpAny_bind (slice_back isS p1 p2 p3 ?_)
  have no : ¬ ((((items.size : Int) - 1 == 0) && ((-1 : Int) == 1) && (items.size == items.size)) = true) := by
    rw [show ((-1 : Int) == 1) = false by decide, Bool.and_false, Bool.false_and]
    exact Bool.false_ne_true
  show wpAny _ _ (if (((items.size : Int) - 1 == 0) && ((-1 : Int) == 1) && (items.size == items.size)) = true then _ else _) _ _ s
  rw [if_neg no, back_pick]
  first
    | exact wpAny_bind (m := Builtin.Tuple.tupleExact _) (wpAny_newObj_type (wpAny_pure ⟨_, rfl, wpAny_pure now⟩) fits)
    | exact wpAny_bind (m := Builtin.Tuple.tupleExact _) (wpAny_newObj_type (wpAny_bind (wpAny_pure (wpAny_pure ⟨_, rfl, wpAny_pure now⟩))) fits)
    | exact wpAny_bind (wpAny_bind (m := Builtin.Tuple.tupleExact _) (wpAny_newObj_type (wpAny_pure (wpAny_pure ⟨_, rfl, wpAny_pure now⟩)) fits))
    | exact wpAny_bind (wpAny_bind (m := Builtin.Tuple.tupleExact _) (wpAny_newObj_type (wpAny_pure ⟨_, rfl, wpAny_pure now⟩) fits))
end
def tBack (K : PySem.W.Frag) (te : TE) : TE := fun σ H Q => te σ H fun x H1 => ∃ (b : Addr) (us : List V), x = .ref b ∧ SqT K H1 b us ∧ ∀ n, H1 n = none → Q (.ref n) (upd H1 n (.tup us.reverse))
theorem pe_back {X : Cx} {e : Expr} {te : TE} {k : Nat} {q1 q2 q3 q : Pos} (he : PE X e te) : PE X (.Subscript e (.Slice none none (some (.UnaryOp .USub (.Constant (.int 1) k q1) q2)) q3) q) (tBack X.K te) := by
  constructor
  intro pins s σ H Q I want
  refine Subscript_ (thn (he.run pins s σ H _ I want) ?_)
  rintro v s1 ⟨x, H1, I1, r1, b, us, rfl, hb, now⟩
  cases r1
  have neg : PO X (some (.UnaryOp .USub (.Constant (.int 1) k q1) q2)) (tPart (tUn (rU fun i => .int (-i)) (tC (.int 1)))) := po_some (pe_un un_neg pe_int)
  refine wpAny_Slice (thn (po_none.run pins s1 σ H1 (fun o H2 => o = none ∧ H2 = H1) I1 ⟨rfl, rfl⟩) ?_)
  rintro w1 s2 ⟨_, H2, I2, p1, rfl, rfl⟩
  refine thn (po_none.run pins s2 σ H2 (fun o H3 => o = none ∧ H3 = H2) I2 ⟨rfl, rfl⟩) ?_
  rintro w2 s3 ⟨_, H3, I3, p2, rfl, rfl⟩
  refine thn (neg.run pins s3 σ H3 (fun o H4 => o = some (-1) ∧ H4 = H3) I3 ⟨1, rfl, -1, rfl, rfl, rfl⟩) ?_
  rintro w3 s4 ⟨_, H4, I4, p3, rfl, rfl⟩
  have I5 : Inv X pins σ H4 { s4 with heap := s4.heap.push { cls := .type "slice", data := .fields #[w1, w2, w3] } } := I4.kept (t' := s4.toks) fun c oc z => Heap.get?_push_of_some _ z
  obtain ⟨its, rv, htp, small⟩ := I5.tuple hb
  have same := rv.length
  show wpAny (model X.prog X.w) X.A (subscriptTail e (.Slice none none (some (.UnaryOp .USub (.Constant (.int 1) k q1) q2)) q3) (.ref b) (.ref s4.heap.objs.size)) (EP X pins σ Q) X.xe { s4 with heap := s4.heap.push { cls := .type "slice", data := .fields #[w1, w2, w3] } }
  refine tail_any (ops := [.ref b, .ref s4.heap.objs.size]) htp.typeIs (PyProof.Rows.slot_tuple_getitem.lookup) ?_ (by with_unfolding_all rfl)
  refine item_back htp (Heap.IsSliceOf.new _ w1 w2 w3) p1 p2 p3 ?_ (by rw [List.size_toArray]; omega)
  refine ⟨.ref _, _, I5.laid (t' := s4.toks) (o := .tup us.reverse) (fun c oc z => Heap.get?_push_of_some _ z) (Nat.le_refl _) ?_, rfl, now _ (I5.hok.fresh (Nat.le_refl _))⟩
  exact ⟨by rw [List.length_reverse]; exact small, _, rv.reverse, IsTup.new _ _⟩
end Rt
/-! own rules: repr of data with dicts in it -/
namespace Rt
open PySem PySem.Spec L2
open PyProof.Rows hiding St
def kd : Key → PyData
  | .inl i => .int i
  | .inr x => .str x
mutual
inductive Dx (K : PySem.W.Frag) (H : Hp) : V → PyData → Prop
  | non : Dx K H .non .none
  | bl (b : Bool) : Dx K H (.bl b) (.bool b)
  | int (i : Int) : Dx K H (.int i) (.int i)
  | str (x : Str) : Dx K H (.str x) (.str x)
  | lst {a : Addr} {xs : List V} {ds : List PyData} : SqL K H a xs → DxAll K H xs ds → Dx K H (.ref a) (.list ds)
  | tup {a : Addr} {xs : List V} {ds : List PyData} : SqT K H a xs → DxAll K H xs ds → Dx K H (.ref a) (.tuple ds)
  | dic {a : Addr} {kvs : List (Key × V)} {ds : List PyData} : H a = some (.dK kvs) → DxAll K H (kvs.map (·.2)) ds → Dx K H (.ref a) (.dict ((kvs.map fun p => kd p.1).zip ds))
inductive DxAll (K : PySem.W.Frag) (H : Hp) : List V → List PyData → Prop
  | nil : DxAll K H [] []
  | cons {v : V} {vs : List V} {d : PyData} {ds : List PyData} : Dx K H v d → DxAll K H vs ds → DxAll K H (v :: vs) (d :: ds)
end
theorem DxAll.length {K : PySem.W.Frag} {H : Hp} : ∀ {vs : List V} {ds : List PyData}, DxAll K H vs ds → vs.length = ds.length
  | _, _, .nil => rfl
  | _, _, .cons _ t => congrArg (· + 1) t.length
/-- a value's data, where it stands, with what its repr rests on -/
structure Told (prog : Program) (w : World) (h : Heap) (u : Value) (d : PyData) : Prop where
  ex : ∃ as bs, Reads h u d as ∧ ReadAtMost h d.depth bs ∧ (d.showable = true → d.shown.length ≤ sizeLine → ReprK prog w bs h d.depth u d.shown)
structure ToldAll (prog : Program) (w : World) (h : Heap) (us : List Value) (ds : List PyData) : Prop where
  ex : ∃ as bs, ReadsAll h us ds as ∧ ReadAtMost h (PyData.depthAll ds) bs ∧
    (PyData.showableAll ds = true → (∀ t ∈ PyData.shownAll ds, t.length ≤ sizeLine) → ReprAllK prog w bs h (PyData.depthAll ds) us (PyData.shownAll ds))
section
variable {prog : Program} {w : World} {h : Heap}
theorem ToldAll.nil : ToldAll prog w h [] [] := ⟨[], [], .nil, (fun _ z => nomatch z), fun _ _ => by simp only [PyData.shownAll]; exact .nil⟩
theorem ToldAll.cons {u : Value} {d : PyData} {us : List Value} {ds : List PyData} (a : Told prog w h u d) (b : ToldAll prog w h us ds) : ToldAll prog w h (u :: us) (d :: ds) := by
  obtain ⟨as, bs, r, m, k⟩ := a.ex
  obtain ⟨as', bs', r', m', k'⟩ := b.ex
  refine ⟨_, bs ++ bs', .cons r r', ?_, fun hs hz => ?_⟩
  · simp only [PyData.depthAll]
    exact (m.mono (Nat.le_max_left _ _)).append (m'.mono (Nat.le_max_right _ _))
  · have hs' : d.showable = true ∧ PyData.showableAll ds = true := by simpa [PyData.showableAll] using hs
    have k1 := k hs'.1 (hz _ (by simp only [PyData.shownAll]; exact List.mem_cons_self ..))
    have k2 := k' hs'.2 fun t ht => hz t (by simp only [PyData.shownAll]; exact List.mem_cons_of_mem _ ht)
    simp only [PyData.depthAll, PyData.shownAll]
    exact .cons ((k1.more fun b z => List.mem_append_left _ z).level_le (Nat.le_max_left _ _)) (k2.more_le (fun b z => List.mem_append_right _ z) (Nat.le_max_right _ _))
theorem zip_fst : ∀ (ks : List PyData) (ds : List PyData), ks.length = ds.length → (ks.zip ds).map (·.1) = ks
  | [], _, _ => rfl
  | _ :: _, [], e => nomatch e
  | k :: ks, d :: ds, e => by
    show k :: ((ks.zip ds).map (·.1)) = k :: ks
    rw [zip_fst ks ds (Nat.succ.inj e)]
theorem zip_snd : ∀ (ks : List PyData) (ds : List PyData), ks.length = ds.length → (ks.zip ds).map (·.2) = ds
  | [], [], _ => rfl
  | [], _ :: _, e => nomatch e
  | _ :: _, [], e => nomatch e
  | k :: ks, d :: ds, e => by
    show d :: ((ks.zip ds).map (·.2)) = d :: ds
    rw [zip_snd ks ds (Nat.succ.inj e)]
theorem Told.list {a : Addr} {o : Obj} {us : List Value} {n : Nat} {ds : List PyData} (h1 : h.get? a = some o) (h2 : o.cls = .type "list") (h3 : o.data = .seq us.toArray n) (t : ToldAll prog w h us ds) : Told prog w h (.ref a) (.list ds) := by
  obtain ⟨as, bs, rs, m, k⟩ := t.ex
  have r : Reads h (.ref a) (.list ds) _ := .list h1 h2 h3 rs
  have out : a ∉ bs := not_mem_of_deeper r (by simp only [PyData.depth]; omega) m
  refine ⟨_, a :: bs, r, ReadAtMost.cons r (by simp only [PyData.depth]; omega) m, fun hs hz => ?_⟩
  have hz' : (listText (PyData.shownAll ds)).length ≤ sizeLine := by simpa only [PyData.shown] using hz
  have kk := k (by simpa [PyData.showable] using hs) fun t ht => Nat.le_trans (listText_mem_le ht) hz'
  simp only [PyData.depth, PyData.shown]
  cases us with
  | nil =>
    cases rs
    simp only [PyData.shownAll, listText_nil]
    exact (ReprK.listEmpty (as := bs) h1 h2 h3).more fun b z => List.mem_cons_of_mem _ z
  | cons x l => exact ReprK.list h1 h2 h3 out (by simpa using kk.length_eq) (fun i y e => kk.item i y (by simpa using e))
theorem Told.tuple {a : Addr} {o : Obj} {us : List Value} {n : Nat} {ds : List PyData} (h1 : h.get? a = some o) (h2 : o.cls = .type "tuple") (h3 : o.data = .seq us.toArray n) (t : ToldAll prog w h us ds) : Told prog w h (.ref a) (.tuple ds) := by
  obtain ⟨as, bs, rs, m, k⟩ := t.ex
  have r : Reads h (.ref a) (.tuple ds) _ := .tuple h1 h2 h3 rs
  have out : a ∉ bs := not_mem_of_deeper r (by simp only [PyData.depth]; omega) m
  refine ⟨_, a :: bs, r, ReadAtMost.cons r (by simp only [PyData.depth]; omega) m, fun hs hz => ?_⟩
  have hz' : (tupleText (PyData.shownAll ds)).length ≤ sizeLine := by simpa only [PyData.shown] using hz
  have kk := k (by simpa [PyData.showable] using hs) fun t ht => Nat.le_trans (tupleText_mem_le ht) hz'
  simp only [PyData.depth, PyData.shown]
  exact ReprK.tuple h1 h2 h3 out kk
theorem Told.dict {a : Addr} {o : Obj} {es : Array DictEntry} {n : Nat} {ks ds : List PyData} (h1 : h.get? a = some o) (h2 : o.cls = .type "dict") (h3 : o.data = .dict es n) (sys : (a == sysModules) = false) (le : ks.length = ds.length)
    (t1 : ToldAll prog w h (es.toList.map (·.key)) ks) (t2 : ToldAll prog w h (es.toList.map (·.val)) ds) : Told prog w h (.ref a) (.dict (ks.zip ds)) := by
  obtain ⟨as, bs, rs, m, k⟩ := t1.ex
  obtain ⟨as', bs', rs', m', k'⟩ := t2.ex
  have ek := zip_fst ks ds le
  have ev := zip_snd ks ds le
  have dk := PyData.depthAll_keys_le (ks.zip ds)
  have dv := PyData.depthAll_vals_le (ks.zip ds)
  rw [ek] at dk
  rw [ev] at dv
  have r : Reads h (.ref a) (.dict (ks.zip ds)) _ := .dict h1 h2 h3 (by rw [ek]; exact rs) (by rw [ev]; exact rs')
  have mm : ReadAtMost h (PyData.depthKv (ks.zip ds)) (bs ++ bs') := (m.mono dk).append (m'.mono dv)
  have out : a ∉ bs ++ bs' := not_mem_of_deeper r (by simp only [PyData.depth]; omega) mm
  refine ⟨_, a :: (bs ++ bs'), r, ReadAtMost.cons r (by simp only [PyData.depth]; omega) mm, fun hs hz => ?_⟩
  have hz' : (dictText (PyData.shownKv (ks.zip ds))).length ≤ sizeLine := by simpa only [PyData.shown] using hz
  obtain ⟨s1, s2⟩ := PyData.showableKv_split (ks.zip ds) (by simpa [PyData.showable] using hs)
  rw [ek] at s1
  rw [ev] at s2
  have k1 := k s1 fun t ht => by
    obtain ⟨p, hp, hl⟩ := PyData.shownKv_key_le (ks.zip ds) t (by rw [ek]; exact ht)
    exact Nat.le_trans hl (Nat.le_trans (dictText_mem_le hp) hz')
  have k2 := k' s2 fun t ht => by
    obtain ⟨p, hp, hl⟩ := PyData.shownKv_val_le (ks.zip ds) t (by rw [ev]; exact ht)
    exact Nat.le_trans hl (Nat.le_trans (dictText_mem_le hp) hz')
  simp only [PyData.depth, PyData.shown, PyData.shownKv_eq, ek, ev]
  exact ReprK.dict h1 h2 h3 sys out (ReprEntriesK.of_two es.toList _ _ (k1.more_le (fun b z => List.mem_append_left _ z) dk) (k2.more_le (fun b z => List.mem_append_right _ z) dv))
end
end Rt
namespace Rt
open PySem PySem.Spec L2
open PyProof.Rows hiding St
section
variable {X : Cx} {pins : List (Addr × Obj)} {σ : St} {H : Hp} {s : Shared}
theorem keys_told : ∀ {es : List DictEntry} {kvs : List (Key × V)} {vs : List (Key × Value)}, KV kvs vs → Pairs (mixKind X.prog X.w) es vs →
    ToldAll X.prog X.w s.heap (es.map (·.key)) (kvs.map fun p => kd p.1) ∧ Vals (kvs.map (·.2)) (es.map (·.val))
  | _, _, _, .nil, .nil => ⟨.nil, .nil⟩
  | e :: es, p :: kvs, q :: vs, .cons r t, .cons k v ps => by
    obtain ⟨a, b⟩ := keys_told t ps
    obtain ⟨ep, rv⟩ := r
    refine ⟨.cons ?_ a, .cons ?_ b⟩
    · have k' : keyIs p.1 e.key = true := by
        rw [ep]
        exact k
      show Told X.prog X.w s.heap e.key (kd p.1)
      rcases keyIs_shape k' with ⟨i, tk, e1, e2⟩ | ⟨x, tk, e1, e2⟩
      · rw [e1, e2]
        refine ⟨[], [], .int i tk, (fun _ z => nomatch z), fun hs hz => ?_⟩
        simp only [kd, PyData.shown]
        exact .of_is (ReprIs.int tk (by simpa [PyData.showable, kd] using hs)) _ _ _
      · rw [e1, e2]
        refine ⟨[], [], .str x tk, (fun _ z => nomatch z), fun hs hz => ?_⟩
        simp only [PyData.shown, kd] at hz ⊢
        exact .of_is (ReprIs.str x tk hz) _ _ _
    · show L2.RelV p.2 e.val
      rw [v]
      exact rv
mutual
theorem dx_told (I : Inv X pins σ H s) : ∀ (v : V) (d : PyData) (u : Value), Dx X.K H v d → L2.RelV v u → Told X.prog X.w s.heap u d
  | _, _, _, .non, r => by
    cases r
    exact ⟨[], [], .none, (fun _ z => nomatch z), fun _ _ => by simp only [PyData.shown]; exact .of_is ReprIs.none _ _ _⟩
  | _, _, _, .bl b, r => by
    cases r
    exact ⟨[], [], .bool b, (fun _ z => nomatch z), fun _ _ => by simp only [PyData.shown]; exact .of_is (ReprIs.bool b) _ _ _⟩
  | _, _, _, .int i, r => by
    obtain ⟨tk, rfl⟩ := r
    exact ⟨[], [], .int i tk, (fun _ z => nomatch z), fun hs _ => by simp only [PyData.shown]; exact .of_is (ReprIs.int tk (by simpa [PyData.showable] using hs)) _ _ _⟩
  | _, _, _, .str x, r => by
    obtain ⟨tk, rfl⟩ := r
    exact ⟨[], [], .str x tk, (fun _ z => nomatch z), fun _ hz => by
      simp only [PyData.shown] at hz ⊢
      exact .of_is (ReprIs.str x tk hz) _ _ _⟩
  | _, _, _, .lst hs ha, r => by
    cases r
    obtain ⟨its, rv, ⟨o, n, ho, hc, _, hd⟩, _⟩ := I.list hs
    exact Told.list ho hc hd (dx_toldAll I _ _ _ ha rv)
  | _, _, _, .tup hs ha, r => by
    cases r
    obtain ⟨its, rv, ⟨o, ho, hc, n, hd⟩, _⟩ := I.tuple hs
    exact Told.tuple ho hc hd (dx_toldAll I _ _ _ ha rv)
  | _, _, _, .dic (a := a) (kvs := kvs) (ds := ds) hs ha, r => by
    cases r
    obtain ⟨_, sys, vs, kv, o, es, ep, ho, hx, hd, _, ps, _⟩ := (show ObjOk X.prog X.w H s.heap a (.dK kvs) from I.hok a _ hs)
    obtain ⟨t1, rv⟩ := keys_told (s := s) kv ps
    exact Told.dict ho hx.1 hd sys (by rw [List.length_map, ← ha.length, List.length_map]) t1 (dx_toldAll I _ _ _ ha rv)
theorem dx_toldAll (I : Inv X pins σ H s) : ∀ (vs : List V) (ds : List PyData) (us : List Value), DxAll X.K H vs ds → Vals vs us → ToldAll X.prog X.w s.heap us ds
  | _, _, _, .nil, r => by
    cases r
    exact .nil
  | _, _, _, .cons h t, r => by
    cases r with
    | cons r1 r2 => exact .cons (dx_told I _ _ _ h r1) (dx_toldAll I _ _ _ t r2)
end
end
def rReprX (K : PySem.W.Frag) : List V → Hp → VK → Prop := fun xs H Q => ∃ v d, xs = [v] ∧ Dx K H v d ∧ d.showable = true ∧ d.depth ≤ 60 ∧ d.shown.length ≤ sizeLine ∧ Q (.str d.shown) H
section
variable {X : Cx}
/-- repr(v), v of data, also of dicts -/
theorem call_reprX (hg : X.A.guards = some []) (hu : X.A.units + 64 < cLine) : CallR X (.builtin "repr") (rReprX X.K) := by
  intro pins s σ H xs us Q I r h
  obtain ⟨v, d, rfl, hd, hs, dep, hz, q⟩ := h
  obtain ⟨u, rfl, ru⟩ := vals1 r
  have end0 : ∀ tk, EP X pins σ Q (.str d.shown s.toks) { s with toks := tk } := fun tk => ⟨.str d.shown, H, I.tok _, ⟨_, rfl⟩, q⟩
  have endH : ∀ h' u tk, (∀ b o, s.heap.get? b = some o → h'.get? b = some o) → EP X pins σ Q (.str d.shown u) { s with heap := h', toks := tk } := fun h' u tk kp => ⟨.str d.shown, H, I.kept kp, ⟨u, rfl⟩, q⟩
  have t := dx_told I _ _ _ hd ru
  cases hd with
  | non =>
    cases ru
    exact PySem.P.repr_of_none (by simpa only [PyData.shown] using end0 (s.toks + 1))
  | bl b =>
    cases ru
    exact PySem.P.repr_of_bool (by simpa only [PyData.shown] using end0 (s.toks + 1))
  | int i =>
    obtain ⟨tk, rfl⟩ := ru
    exact PySem.P.repr_of_int (by simpa [PyData.showable] using hs) (by simpa only [PyData.shown] using end0 (s.toks + 1))
  | str x =>
    obtain ⟨tk, rfl⟩ := ru
    exact PySem.P.repr_of_str (by simpa only [PyData.shown] using end0 (s.toks + 1)) (by simpa only [PyData.shown] using hz)
  | @lst a xs ds hl ha =>
    cases ru
    obtain ⟨its, rv, ⟨o, n, ho, hc, _, hdt⟩, _⟩ := I.list hl
    obtain ⟨as, bs, rs, m, k⟩ := (dx_toldAll I _ _ _ ha rv).ex
    have rd : Reads s.heap (.ref a) (.list ds) _ := .list ho hc hdt rs
    have out : a ∉ bs := not_mem_of_deeper rd (by simp only [PyData.depth]; omega) m
    have hz' : (listText (PyData.shownAll ds)).length ≤ sizeLine := by simpa only [PyData.shown] using hz
    have kk := k (by simpa [PyData.showable] using hs) fun t ht => Nat.le_trans (listText_mem_le ht) hz'
    simp only [PyData.depth] at dep
    simp only [PyData.shown] at endH
    refine call_repr_slot (by omega) ⟨o, ho, hc⟩ F.slot_list_repr.toG ?_
    have hu1 : X.A.in1.units + (PyData.depthAll ds + 1) < cLine := by
      show X.A.units + 1 + (PyData.depthAll ds + 1) < cLine
      omega
    cases its with
    | nil =>
      cases rs
      simp only [PyData.shownAll, listText_nil] at endH
      exact call_list_repr_empty ⟨o, ho, hc⟩ ho hdt ⟨_, _, rfl, endH s.heap _ _ fun _ _ e => e⟩
    | cons x l =>
      exact call_list_reprK ho hc hdt out (by simpa using kk.length_eq) (fun i y e => kk.item i y (by simpa using e)) hg (fun b _ => Clear.nil b) hu1 (fun _ _ e => e) (fun h' u tk kp => ⟨_, _, rfl, endH h' u tk kp⟩) hz'
  | @tup a xs ds hl ha =>
    cases ru
    obtain ⟨its, rv, ⟨o, ho, hc, n, hdt⟩, _⟩ := I.tuple hl
    obtain ⟨as, bs, rs, m, k⟩ := (dx_toldAll I _ _ _ ha rv).ex
    have rd : Reads s.heap (.ref a) (.tuple ds) _ := .tuple ho hc hdt rs
    have out : a ∉ bs := not_mem_of_deeper rd (by simp only [PyData.depth]; omega) m
    have hz' : (tupleText (PyData.shownAll ds)).length ≤ sizeLine := by simpa only [PyData.shown] using hz
    have kk := k (by simpa [PyData.showable] using hs) fun t ht => Nat.le_trans (tupleText_mem_le ht) hz'
    simp only [PyData.depth] at dep
    simp only [PyData.shown] at endH
    refine call_repr_slot (by omega) ⟨o, ho, hc⟩ F.slot_tuple_repr ?_
    have hu1 : X.A.in1.units + (PyData.depthAll ds + 1) < cLine := by
      show X.A.units + 1 + (PyData.depthAll ds + 1) < cLine
      omega
    exact call_tuple_reprK ho hc hdt out kk hg (fun b _ => Clear.nil b) hu1 (fun _ _ e => e) (fun h' u tk kp => ⟨_, _, rfl, endH h' u tk kp⟩) hz'
  | @dic a kvs ds hl ha =>
    cases ru
    obtain ⟨_, sys, vs, kv, o, es, ep, ho, hx, hdt, _, ps, _⟩ := (show ObjOk X.prog X.w H s.heap a (.dK kvs) from I.hok a _ hl)
    obtain ⟨t1, rv⟩ := keys_told (s := s) kv ps
    obtain ⟨as, bs, rs, m, k⟩ := t1.ex
    obtain ⟨as', bs', rs', m', k'⟩ := (dx_toldAll I _ _ _ ha rv).ex
    have le : (kvs.map fun p => kd p.1).length = ds.length := by rw [List.length_map, ← ha.length, List.length_map]
    clear end0 t
    revert rs m k le hs dep hz endH
    generalize (kvs.map fun p => kd p.1) = ks
    intro hs dep hz endH rs m k le
    have ek := zip_fst ks ds le
    have ev := zip_snd ks ds le
    have dk := PyData.depthAll_keys_le (ks.zip ds)
    have dv := PyData.depthAll_vals_le (ks.zip ds)
    rw [ek] at dk
    rw [ev] at dv
    have rd : Reads s.heap (.ref a) (.dict (ks.zip ds)) _ := .dict ho hx.1 hdt (by rw [ek]; exact rs) (by rw [ev]; exact rs')
    have mm : ReadAtMost s.heap (PyData.depthKv (ks.zip ds)) (bs ++ bs') := (m.mono dk).append (m'.mono dv)
    have out : a ∉ bs ++ bs' := not_mem_of_deeper rd (by simp only [PyData.depth]; omega) mm
    have hz' : (dictText (PyData.shownKv (ks.zip ds))).length ≤ sizeLine := by simpa only [PyData.shown] using hz
    obtain ⟨s1, s2⟩ := PyData.showableKv_split (ks.zip ds) (by simpa [PyData.showable] using hs)
    rw [ek] at s1
    rw [ev] at s2
    have k1 := k s1 fun t ht => by
      obtain ⟨p, hp, hl⟩ := PyData.shownKv_key_le (ks.zip ds) t (by rw [ek]; exact ht)
      exact Nat.le_trans hl (Nat.le_trans (dictText_mem_le hp) hz')
    have k2 := k' s2 fun t ht => by
      obtain ⟨p, hp, hl⟩ := PyData.shownKv_val_le (ks.zip ds) t (by rw [ev]; exact ht)
      exact Nat.le_trans hl (Nat.le_trans (dictText_mem_le hp) hz')
    simp only [PyData.depth] at dep
    simp only [PyData.shown, PyData.shownKv_eq, ek, ev] at endH
    rw [PyData.shownKv_eq, ek, ev] at hz'
    refine call_repr_slot (by omega) ⟨o, ho, hx.1⟩ F.slot_dict_repr ?_
    have hu1 : X.A.in1.units + (PyData.depthKv (ks.zip ds) + 1) < cLine := by
      show X.A.units + 1 + (PyData.depthKv (ks.zip ds) + 1) < cLine
      omega
    exact call_dict_reprK ho hx.1 hdt sys out (ReprEntriesK.of_two es.toList _ _ (k1.more_le (fun b z => List.mem_append_left _ z) dk) (k2.more_le (fun b z => List.mem_append_right _ z) dv))
      hg (fun b _ => Clear.nil b) hu1 (fun _ _ e => e) (fun h' u tk kp => ⟨_, _, rfl, endH h' u tk kp⟩) hz'
end
end Rt
/-! what the texts of all laws share: the source of numbers, the heap without it, data -/
namespace Rs
open PySem PySem.Spec L2 Rt
open PyProof.Rows hiding St
theorem n_cl : ¬ (("cells" : Str) = "left") := by decide +kernel
theorem n_cm : ¬ (("cells" : Str) = "mixed") := by decide +kernel
theorem n_ct : ¬ (("cells" : Str) = "turn") := by decide +kernel
theorem n_lm : ¬ (("left" : Str) = "mixed") := by decide +kernel
theorem n_lt : ¬ (("left" : Str) = "turn") := by decide +kernel
theorem n_mt : ¬ (("mixed" : Str) = "turn") := by decide +kernel
def srcK (c : Addr) (l m t : Int) : List (Key × V) := [(Sum.inr "cells", .ref c), (Sum.inr "left", .int l), (Sum.inr "mixed", .int m), (Sum.inr "turn", .int t)]
theorem ne_inr {a b : Str} (h : ¬ a = b) : ¬ ((Sum.inr a : Key) = Sum.inr b) := fun e => h (Sum.inr.inj e)
theorem val_cells (c : Addr) (l m t : Int) : valV (srcK c l m t) (Sum.inr "cells") = some (.ref c) := valV_pos rfl
theorem val_left (c : Addr) (l m t : Int) : valV (srcK c l m t) (Sum.inr "left") = some (.int l) := by
  unfold srcK
  rw [valV_neg (ne_inr n_cl), valV_pos rfl]
theorem val_mixed (c : Addr) (l m t : Int) : valV (srcK c l m t) (Sum.inr "mixed") = some (.int m) := by
  unfold srcK
  rw [valV_neg (ne_inr n_cm), valV_neg (ne_inr n_lm), valV_pos rfl]
theorem val_turn (c : Addr) (l m t : Int) : valV (srcK c l m t) (Sum.inr "turn") = some (.int t) := by
  unfold srcK
  rw [valV_neg (ne_inr n_ct), valV_neg (ne_inr n_lt), valV_neg (ne_inr n_mt), valV_pos rfl]
theorem put_left (c : Addr) (l m t z : Int) : putK (srcK c l m t) (Sum.inr "left") (.int z) = srcK c z m t := by
  have h1 := ne_inr n_cl
  have h2 := ne_inr (fun e => n_lm e.symm)
  have h3 := ne_inr (fun e => n_lt e.symm)
  unfold putK srcK
  simp [h1, h2, h3]
theorem put_mixed (c : Addr) (l m t z : Int) : putK (srcK c l m t) (Sum.inr "mixed") (.int z) = srcK c l z t := by
  have h1 := ne_inr n_cm
  have h2 := ne_inr n_lm
  have h3 := ne_inr (fun e => n_mt e.symm)
  unfold putK srcK
  simp [h1, h2, h3]
theorem put_turn (c : Addr) (l m t z : Int) : putK (srcK c l m t) (Sum.inr "turn") (.int z) = srcK c l m z := by
  have h1 := ne_inr n_ct
  have h2 := ne_inr n_lt
  have h3 := ne_inr n_mt
  unfold putK srcK
  simp [h1, h2, h3]
section
variable {H : Hp} {d c : Addr} {l m t : Int}
theorem get_cells (h : H d = some (.dK (srcK c l m t))) : DGet H d (.str "cells") (some (.ref c)) := by
  have z := DGet.k (k := (Sum.inr "cells" : Key)) h
  rw [val_cells] at z
  exact z
theorem get_left (h : H d = some (.dK (srcK c l m t))) : DGet H d (.str "left") (some (.int l)) := by
  have z := DGet.k (k := (Sum.inr "left" : Key)) h
  rw [val_left] at z
  exact z
theorem get_mixed (h : H d = some (.dK (srcK c l m t))) : DGet H d (.str "mixed") (some (.int m)) := by
  have z := DGet.k (k := (Sum.inr "mixed" : Key)) h
  rw [val_mixed] at z
  exact z
theorem get_turn (h : H d = some (.dK (srcK c l m t))) : DGet H d (.str "turn") (some (.int t)) := by
  have z := DGet.k (k := (Sum.inr "turn" : Key)) h
  rw [val_turn] at z
  exact z
theorem few4 : (srcK c l m t).length < sizeLine := by show 4 < sizeLine; decide
theorem st_left (h : H d = some (.dK (srcK c l m t))) (z : Int) : DPut H d (.str "left") (.int z) (upd H d (.dK (srcK c z m t))) := by
  have q := DPut.k (k := (Sum.inr "left" : Key)) (v := .int z) h few4
  rw [put_left] at q
  exact q
theorem st_mixed (h : H d = some (.dK (srcK c l m t))) (z : Int) : DPut H d (.str "mixed") (.int z) (upd H d (.dK (srcK c l z t))) := by
  have q := DPut.k (k := (Sum.inr "mixed" : Key)) (v := .int z) h few4
  rw [put_mixed] at q
  exact q
theorem st_turn (h : H d = some (.dK (srcK c l m t))) (z : Int) : DPut H d (.str "turn") (.int z) (upd H d (.dK (srcK c l m z))) := by
  have q := DPut.k (k := (Sum.inr "turn" : Key)) (v := .int z) h few4
  rw [put_turn] at q
  exact q
end
structure Src (H : Hp) (d c : Addr) : Prop where
  ex : ∃ (ks : List Int) (l m t : Int), H d = some (.dK (srcK c l m t)) ∧ H c = some (.lst (ks.map V.int))
def Keep (d c : Addr) (H H' : Hp) : Prop := ∀ b o, H b = some o → b ≠ d → b ≠ c → H' b = some o
theorem Keep.refl {d c : Addr} {H : Hp} : Keep d c H H := fun _ _ e _ _ => e
theorem Keep.trans {d c : Addr} {H H1 H2 : Hp} (a : Keep d c H H1) (b : Keep d c H1 H2) : Keep d c H H2 := fun x o e n1 n2 => b x o (a x o e n1 n2) n1 n2
theorem Keep.new {d c p : Addr} {o : HO} {H H1 : Hp} (a : Keep d c H H1) (n : H1 p = none) : Keep d c H (upd H1 p o) := fun x u e n1 n2 => by
  have z := a x u e n1 n2
  rw [upd_ne (ne_of_none z n)]
  exact z
theorem Keep.d {d c : Addr} {o : HO} {H H1 : Hp} (a : Keep d c H H1) : Keep d c H (upd H1 d o) := fun x u e n1 n2 => by
  rw [upd_ne n1]
  exact a x u e n1 n2
theorem Keep.c {d c : Addr} {o : HO} {H H1 : Hp} (a : Keep d c H H1) : Keep d c H (upd H1 c o) := fun x u e n1 n2 => by
  rw [upd_ne n2]
  exact a x u e n1 n2
theorem Src.new {d c p : Addr} {o : HO} {H : Hp} (S : Src H d c) (n : H p = none) : Src (upd H p o) d c := by
  obtain ⟨ks, l, m, t, h1, h2⟩ := S.ex
  exact ⟨ks, l, m, t, by rw [upd_ne (ne_of_none h1 n)]; exact h1, by rw [upd_ne (ne_of_none h2 n)]; exact h2⟩
theorem Src.nd {d c : Addr} {H : Hp} {b : Addr} {xs : List V} (S : Src H d c) (h : H b = some (.tup xs)) : b ≠ d ∧ b ≠ c := by
  obtain ⟨ks, l, m, t, h1, h2⟩ := S.ex
  exact ⟨ne_of h h1 (by intro z; cases z), ne_of h h2 (by intro z; cases z)⟩
theorem Keep.tup {d c : Addr} {H H1 : Hp} {b : Addr} {xs : List V} (a : Keep d c H H1) (S : Src H d c) (h : H b = some (.tup xs)) : H1 b = some (.tup xs) := a b _ h (S.nd h).1 (S.nd h).2
def spSource (K : PySem.W.Frag) : Sp := fun vs H Q _ => ∃ (a : Addr) (ns : List Int), vs = [.ref a] ∧ SqL K H a (ns.map V.int) ∧ ns.length ≤ 63 ∧
  ∀ (d c : Addr) (H' : Hp), H d = none → H c = none → Src H' d c → Same H H' → Q (.ref d) H'
def spPick : Sp := fun vs H Q _ => ∃ (d c : Addr) (n : Int), vs = [.ref d, .int n] ∧ Src H d c ∧ n < 1000000000 ∧
  ∀ (r : Int) (H' : Hp), 0 ≤ r → r < n ∨ r = 0 → Src H' d c → Keep d c H H' → Q (.int r) H'
def spOf : Sp := fun vs H Q _ => ∃ (d c p : Addr) (xs : List V), vs = [.ref d, .ref p] ∧ Src H d c ∧ H p = some (.lst xs) ∧ p ≠ c ∧ 0 < xs.length ∧ xs.length < 1000000000 ∧
  ∀ (i : Nat) (v : V) (H' : Hp), xs[i]? = some v → Src H' d c → Keep d c H H' → Q v H'
theorem merge_src (c : Addr) (l m t : Int) : mergeK [] (srcK c l m t) = srcK c l m t := by
  have h1 := ne_inr n_cl
  have h2 := ne_inr n_cm
  have h3 := ne_inr n_ct
  have h4 := ne_inr n_lm
  have h5 := ne_inr n_lt
  have h6 := ne_inr n_mt
  unfold mergeK srcK putK
  simp [h1, h2, h3, h4, h5, h6]
theorem int_at {ns : List Int} {i : Nat} {y : V} (h : (ns.map V.int)[i]? = some y) : ∃ z, ns[i]? = some z ∧ y = V.int z := by
  rw [List.getElem?_map] at h
  cases e : ns[i]? with
  | none => rw [e] at h; cases h
  | some z => rw [e] at h; exact ⟨z, rfl, (Option.some.inj h).symm⟩
theorem same_new {H : Hp} {p : Addr} {o : HO} (n : H p = none) : Same H (upd H p o) := fun b u e => by
  rw [upd_ne (ne_of_none e n)]
  exact e
theorem pick_at {α : Type} {xs : List α} {r : Int} (h0 : 0 ≤ r) (h1 : r < xs.length) : ∃ v, atI xs r = some v ∧ v ∈ xs := by
  obtain ⟨j, ej⟩ : ∃ j : Nat, r = (j : Int) := ⟨r.toNat, by omega⟩
  have hj : j < xs.length := by omega
  refine ⟨xs[j], ?_, List.getElem_mem hj⟩
  subst ej
  unfold atI ixN
  rw [if_pos h0, if_pos h1]
  show xs[((j : Int)).toNat]? = _
  rw [Int.toNat_natCast, List.getElem?_eq_getElem hj]
theorem Src.away {d c p : Addr} {H : Hp} (S : Src H d c) (n : H p = none) : p ≠ d ∧ p ≠ c := by
  obtain ⟨ks, l, m, u, h1, h2⟩ := S.ex
  exact ⟨(ne_of_none h1 n).symm, (ne_of_none h2 n).symm⟩
theorem Src.put {d c L : Addr} {o : HO} {H : Hp} (S : Src H d c) (a : L ≠ d ∧ L ≠ c) : Src (upd H L o) d c := by
  obtain ⟨ks, l, m, u, h1, h2⟩ := S.ex
  exact ⟨ks, l, m, u, by rw [upd_ne a.1.symm]; exact h1, by rw [upd_ne a.2.symm]; exact h2⟩
theorem Keep.put {d c L : Addr} {o : HO} {H H1 : Hp} (a : Keep d c H H1) (n : H L = none) : Keep d c H (upd H1 L o) := fun x u e n1 n2 => by
  rw [upd_ne (ne_of_none e n)]
  exact a x u e n1 n2
def Row {α : Type} (f : α → HO) (H : Hp) (as : List Addr) (ps : List α) : Prop := as.length = ps.length ∧ ∀ (i : Nat) (a : Addr) (p : α), as[i]? = some a → ps[i]? = some p → H a = some (f p)
theorem Row.same {α : Type} {f : α → HO} {H H' : Hp} {as : List Addr} {ps : List α} (r : Row f H as ps) (s : Same H H') : Row f H' as ps := ⟨r.1, fun i a p h1 h2 => s _ _ (r.2 i a p h1 h2)⟩
theorem atI_0 {α : Type} {a : α} {xs : List α} : atI (a :: xs) 0 = some a := by
  unfold atI ixN
  rw [if_pos (Int.le_refl 0), if_pos (by simp)]
  rfl
theorem get_k {H : Hp} {d : Addr} {kvs : List (Key × V)} {x : Str} (h : H d = some (.dK kvs)) : DGet H d (.str x) (valV kvs (Sum.inr x)) := DGet.k (k := Sum.inr x) h
theorem kitLT {K : PySem.W.Frag} {t : Value} (h : t = .type "list" ∨ t = .type "tuple") : PySem.W.kitAny K t [.type "list", .type "tuple"] = some true := by
  rcases h with rfl | rfl
  · exact kitAny_cons (b := true) (kit_ty (by decide +kernel)) (fun z => nomatch z) (fun _ => rfl)
  · exact kitAny_cons (b := false) (kit_ty (by decide +kernel)) (fun _ => kitAny_cons (b := true) (kit_ty (by decide +kernel)) (fun z => nomatch z) (fun _ => rfl)) (fun z => nomatch z)
def Sbut (a : Addr) (H H' : Hp) : Prop := ∀ b o, H b = some o → b ≠ a → H' b = some o
theorem Sbut.refl {a : Addr} {H : Hp} : Sbut a H H := fun _ _ e _ => e
theorem Sbut.trans {a : Addr} {H H1 H2 : Hp} (x : Sbut a H H1) (y : Sbut a H1 H2) : Sbut a H H2 := fun b o e n => y b o (x b o e n) n
theorem Sbut.of {a : Addr} {H H' : Hp} (s : Same H H') : Sbut a H H' := fun b o e _ => s b o e
theorem Sbut.put {a : Addr} {o : HO} {H : Hp} : Sbut a H (upd H a o) := fun b u e n => by
  rw [upd_ne n]
  exact e
theorem Row.but {α : Type} {f : α → HO} {a : Addr} {H H' : Hp} {as : List Addr} {ps : List α} (r : Row f H as ps) (s : Sbut a H H') (n : a ∉ as) : Row f H' as ps :=
  ⟨r.1, fun i b p h1 h2 => s _ _ (r.2 i b p h1 h2) fun e => n (e ▸ List.mem_of_getElem? h1)⟩
theorem row_not {α : Type} {f : α → HO} {a : Addr} {o : HO} {H : Hp} {as : List Addr} {ps : List α} (r : Row f H as ps) (h : H a = some o) (d : ∀ p, o ≠ f p) : a ∉ as := fun m => by
  obtain ⟨i, hi, e⟩ := List.getElem_of_mem m
  have hp : i < ps.length := by rw [← r.1]; exact hi
  have q := r.2 i a ps[i] (by rw [List.getElem?_eq_getElem hi, e]) (List.getElem?_eq_getElem hp)
  rw [h] at q
  exact d _ (Option.some.inj q)
def kindOf : HO → Option String
  | .lst _ => some "list"
  | .tup _ => some "tuple"
  | .dK _ => some "dict"
  | _ => none
def Od (H : Hp) : V → Prop
  | .ref t => ∃ o T, H t = some o ∧ kindOf o = some T
  | .ty _ => False
  | .byt _ => False
  | .flt _ => False
  | _ => True
def isI : V → Bool
  | .int _ => true
  | _ => false
theorem od_type {K : PySem.W.Frag} {H : Hp} {v : V} (h : Od H v) : ∃ T b1 b2, TyX K H v (.type T) ∧ kitB T "int" = some b1 ∧ kitB T "bool" = some b2 ∧ (b1 && !b2) = isI v := by
  cases v with
  | non => exact ⟨_, false, false, .base .non, by decide +kernel, by decide +kernel, rfl⟩
  | bl b => exact ⟨_, true, true, .base (.bl b), by decide +kernel, by decide +kernel, rfl⟩
  | int i => exact ⟨_, true, false, .base (.int i), by decide +kernel, by decide +kernel, rfl⟩
  | str x => exact ⟨_, false, false, .base (.str x), by decide +kernel, by decide +kernel, rfl⟩
  | byt b => exact h.elim
  | flt b => exact h.elim
  | ty n => exact h.elim
  | ref t =>
    obtain ⟨o, T, e, k⟩ := h
    cases o with
    | lst xs => exact ⟨_, false, false, .base (.lst e), by decide +kernel, by decide +kernel, rfl⟩
    | tup xs => exact ⟨_, false, false, .base (.tup e), by decide +kernel, by decide +kernel, rfl⟩
    | dK kvs => exact ⟨_, false, false, .base (.dK e), by decide +kernel, by decide +kernel, rfl⟩
    | _ => cases k
def onB (f s : Int) : V → Bool
  | .int i => decide ((i - f) % s = 0)
  | _ => false
theorem dec_V (i j : Int) : decide (V.int i = V.int j) = decide (i = j) := by
  by_cases h : i = j
  · subst h
    simp
  · rw [decide_eq_false h]
    exact decide_eq_false fun z => h (V.int.inj z)
def spIsInt : Sp := fun vs H Q _ => ∃ v, vs = [v] ∧ Od H v ∧ Q (.bl (isI v)) H
def spOn : Sp := fun vs H Q _ => ∃ (t : Addr) (f s : Int) (v : V), vs = [.ref t, v] ∧ H t = some (.tup [.int f, .int s]) ∧ 0 < s ∧ Od H v ∧ Q (.bl (onB f s v)) H
theorem Keep.od {d c : Addr} {H H1 : Hp} {v : V} (a : Keep d c H H1) (w : ∀ t, v = .ref t → t ≠ d ∧ t ≠ c) (h : Od H v) : Od H1 v := by
  cases v with
  | ref t =>
    obtain ⟨o, T, e, k⟩ := h
    obtain ⟨n1, n2⟩ := w t rfl
    exact ⟨o, T, a t o e n1 n2, k⟩
  | non => exact True.intro
  | bl b => exact True.intro
  | int i => exact True.intro
  | str x => exact True.intro
  | byt b => exact h.elim
  | flt b => exact h.elim
  | ty n => exact h.elim

theorem Od.same {H H' : Hp} {v : V} (s : Same H H') (h : Od H v) : Od H' v := by
  cases v with
  | ref t =>
    obtain ⟨o, T, e, k⟩ := h
    exact ⟨o, T, s _ _ e, k⟩
  | non => exact True.intro
  | bl b => exact True.intro
  | int i => exact True.intro
  | str x => exact True.intro
  | byt b => exact h.elim
  | flt b => exact h.elim
  | ty n => exact h.elim
def Row2 (H : Hp) (q : Addr) (xs : List V) : Prop := H q = some (.lst xs) ∨ H q = some (.tup xs)
theorem Row2.same {H H' : Hp} {q : Addr} {xs : List V} (s : Same H H') (h : Row2 H q xs) : Row2 H' q xs := h.imp (s _ _) (s _ _)
theorem Row2.type {K : PySem.W.Frag} {H : Hp} {q : Addr} {xs : List V} (h : Row2 H q xs) : ∃ T : String, TyX K H (.ref q) (.type T) ∧ PySem.W.kitAny K (.type T) [.type "list", .type "tuple"] = some true := by
  rcases h with h | h
  · exact ⟨_, .base (.lst h), kitLT (.inl rfl)⟩
  · exact ⟨_, .base (.tup h), kitLT (.inr rfl)⟩
theorem Row2.seq {K : PySem.W.Frag} {H : Hp} {q : Addr} {xs : List V} (h : Row2 H q xs) : SqL K H q xs ∨ SqT K H q xs := h.imp SqL.of SqT.of
theorem onB_int {f s : Int} {x : V} (h : onB f s x = true) : ∃ z, x = .int z := by
  cases x with
  | int z => exact ⟨z, rfl⟩
  | _ => exact absurd h (by simp [onB])
theorem rIx_of {K : PySem.W.Frag} {H : Hp} {q : Addr} {xs : List V} {i : Int} {x : V} {Q : VK} (h : Row2 H q xs) (e : atI xs i = some x) (k : Q x H) : rIx K (.ref q) (.int i) H Q := by
  rcases h with h | h
  · exact .inl ⟨q, xs, i, x, rfl, rfl, SqL.of h, e, k⟩
  · exact .inr (.inl ⟨q, xs, i, x, rfl, rfl, SqT.of h, e, k⟩)
theorem atN {xs : List V} {i : Nat} {x : V} (h : xs[i]? = some x) : atI xs (i : Int) = some x := at_of (j := i) rfl h
theorem kitLT0 {K : PySem.W.Frag} {T : String} (h1 : kitB T "list" = some false) (h2 : kitB T "tuple" = some false) : PySem.W.kitAny K (.type T) [.type "list", .type "tuple"] = some false :=
  kitAny_cons (b := false) (kit_ty h1) (fun _ => kitAny_cons (b := false) (kit_ty h2) (fun _ => kitAny_nil) (fun z => nomatch z)) (fun z => nomatch z)
section
variable {d c p : Addr} {H H' : Hp} {o : HO}
def mask (d c : Addr) (H : Hp) : Hp := fun b => if b = d ∨ b = c then none else H b
theorem mask_same : Same (mask d c H) H := fun b u e => by
  unfold mask at e
  split at e
  · cases e
  · exact e
theorem mask_keep (a : Keep d c H H') : Same (mask d c H) (mask d c H') := fun b u e => by
  unfold mask at e ⊢
  split at e
  · cases e
  · rename_i n
    rw [if_neg n]
    exact a b u e (fun z => n (.inl z)) (fun z => n (.inr z))
theorem mask_new (n : H p = none) : Same (mask d c H) (mask d c (upd H p o)) := mask_keep (Keep.refl.new n)
theorem mask_at (n : p ≠ d ∧ p ≠ c) (e : H p = some o) : mask d c H p = some o := by
  unfold mask
  rw [if_neg (fun z => z.elim n.1 n.2)]
  exact e
theorem Src.same (S : Src H d c) (s : Same H H') : Src H' d c := by
  obtain ⟨ks, l, m, u, h1, h2⟩ := S.ex
  exact ⟨ks, l, m, u, s _ _ h1, s _ _ h2⟩
end
def upv (f s x : Int) : Int := f + (x - f + s - 1) / s * s
theorem upv_on (f s x : Int) : (upv f s x - f) % s = 0 := by
  unfold upv
  rw [show f + (x - f + s - 1) / s * s - f = s * ((x - f + s - 1) / s) by rw [Int.mul_comm s]; omega, Int.mul_emod_right]
theorem upv_le {f s x : Int} (h : 0 < s) : x ≤ upv f s x := by
  unfold upv
  have h1 := Int.emod_def (x - f + s - 1) s
  have h2 := Int.emod_lt_of_pos (x - f + s - 1) h
  rw [Int.mul_comm] at h1
  omega
theorem upv_lt {f s x : Int} (h : 0 < s) : upv f s x < x + s := by
  unfold upv
  have h1 := Int.emod_def (x - f + s - 1) s
  have h2 := Int.emod_nonneg (x - f + s - 1) (Int.ne_of_gt h)
  rw [Int.mul_comm] at h1
  omega
def spLUp : Sp := fun vs H Q _ => ∃ (t : Addr) (f s x : Int), vs = [.ref t, .int x] ∧ H t = some (.tup [.int f, .int s]) ∧ 0 < s ∧ s < 1000 ∧ Q (.int (upv f s x)) H
theorem mask_but {d c D : Addr} {o : HO} {H : Hp} : Sbut D (mask d c H) (mask d c (upd H D o)) := fun b u e n => by
  unfold mask at e ⊢
  split at e
  · cases e
  · rename_i z
    rw [if_neg z, upd_ne n]
    exact e
theorem Row.snoc {α : Type} {f : α → HO} {H : Hp} {as : List Addr} {ps : List α} {a : Addr} {p : α} (r : Row f H as ps) (h : H a = some (f p)) : Row f H (as ++ [a]) (ps ++ [p]) := by
  refine ⟨by rw [List.length_append, List.length_append, r.1]; rfl, fun i b q h1 h2 => ?_⟩
  rcases Nat.lt_or_ge i as.length with lt | ge
  · rw [List.getElem?_append_left lt] at h1
    rw [List.getElem?_append_left (by rw [← r.1]; exact lt)] at h2
    exact r.2 i b q h1 h2
  · have e : i = as.length := by
      have := (List.getElem?_eq_some_iff.mp h1).1
      rw [List.length_append] at this
      simp at this
      omega
    rw [e, List.getElem?_append_right (Nat.le_refl _), Nat.sub_self] at h1
    rw [e, r.1, List.getElem?_append_right (Nat.le_refl _), Nat.sub_self] at h2
    cases h1
    cases h2
    exact h
theorem merge2 {a b : Str} {x y : V} (h : ¬ a = b) : mergeK [] [((Sum.inr a : Key), x), (Sum.inr b, y)] = [(Sum.inr a, x), (Sum.inr b, y)] := by
  have h1 := ne_inr h
  unfold mergeK putK
  simp [h1]
theorem eqvAll_ints : ∀ xs ys : List Int, PyData.eqvAll (xs.map PyData.int) (ys.map PyData.int) = decide (xs = ys)
  | [], [] => by simp [PyData.eqvAll]
  | [], _ :: _ => by simp [PyData.eqvAll]
  | _ :: _, [] => by simp [PyData.eqvAll]
  | x :: xs, y :: ys => by
    have h := eqvAll_ints xs ys
    have e : (x == y) = decide (x = y) := by
      rw [Bool.eq_iff_iff]
      simp
    simp [PyData.eqvAll, PyData.eqv, h, e]
theorem eqv_ints (xs ys : List Int) : PyData.eqv (.list (xs.map PyData.int)) (.list (ys.map PyData.int)) = decide (xs = ys) := by
  simp [PyData.eqv, eqvAll_ints]
theorem dpAll_ints {K : PySem.W.Frag} {H : Hp} : ∀ ks : List Int, DpAll K H (ks.map V.int) (ks.map PyData.int)
  | [] => .nil
  | k :: ks => .cons (.int k) (dpAll_ints ks)
theorem lay_ints : ∀ ks : List Int, PyData.canLayAll0 (ks.map PyData.int) = true
  | [] => by simp [PyData.canLayAll0]
  | k :: ks => by
    have h := lay_ints ks
    simp [PyData.canLayAll0, PyData.canLay0, h]
theorem depth_ints : ∀ ks : List Int, PyData.depthAll (ks.map PyData.int) = 0
  | [] => by simp [PyData.depthAll]
  | k :: ks => by
    have h := depth_ints ks
    simp [PyData.depthAll, PyData.depth, h]
theorem shaped_ints (ks : List Int) : SeqAt.shaped (.list (ks.map PyData.int)) = true := by
  unfold SeqAt.shaped
  simp [PyData.canLay0, lay_ints, PyData.depth, depth_ints]
theorem int_get {ys : List Int} {i : Nat} {z : Int} (h : (ys.map V.int)[i]? = some (V.int z)) : ys[i]? = some z := by
  obtain ⟨y, hy, e⟩ := int_at h
  cases e
  exact hy
theorem set_self {xs : List Int} {p : Nat} {z : Int} (h : xs[p]? = some z) : xs.set p z = xs := by
  refine List.ext_getElem? fun m => ?_
  by_cases e : p = m
  · subst e
    rw [List.getElem?_set_self (List.getElem?_eq_some_iff.mp h).1, h]
  · rw [List.getElem?_set_ne e]
theorem sqT_same {K : PySem.W.Frag} {H H' : Hp} {a : Addr} {xs : List V} (s : Same H H') (h : SqT K H a xs) : SqT K H' a xs := by
  rcases h with (h | ⟨o, h⟩) | h
  · exact .inl (.inl (s _ _ h))
  · exact .inl (.inr ⟨o, s _ _ h⟩)
  · exact .inr h
mutual
theorem Dx.same {K : PySem.W.Frag} {H H' : Hp} (s : Same H H') : ∀ (v : V) (d : PyData), Dx K H v d → Dx K H' v d
  | _, _, .non => .non
  | _, _, .bl b => .bl b
  | _, _, .int i => .int i
  | _, _, .str x => .str x
  | _, _, .lst h a => .lst (s.seq h) (DxAll.same s _ _ a)
  | _, _, .tup h a => .tup (sqT_same s h) (DxAll.same s _ _ a)
  | _, _, .dic h a => .dic (s _ _ h) (DxAll.same s _ _ a)
theorem DxAll.same {K : PySem.W.Frag} {H H' : Hp} (s : Same H H') : ∀ (vs : List V) (ds : List PyData), DxAll K H vs ds → DxAll K H' vs ds
  | _, _, .nil => .nil
  | _, _, .cons h t => .cons (Dx.same s _ _ h) (DxAll.same s _ _ t)
end
structure Nice (d : PyData) : Prop where
  sh : d.showable = true
  dp : d.depth ≤ 5
  ln : d.shown.length ≤ 10000
theorem Nice.one {d : PyData} (n : Nice d) : d.showable = true ∧ d.depth ≤ 60 ∧ d.shown.length ≤ sizeLine := ⟨n.sh, Nat.le_trans n.dp (by decide), Nat.le_trans n.ln (by decide)⟩
structure Sm (d : PyData) : Prop where
  sh : d.showable = true
  dp : d.depth ≤ 2
  ln : d.shown.length ≤ 450
theorem Sm.nice {d : PyData} (h : Sm d) : Nice d := ⟨h.sh, Nat.le_trans h.dp (by decide), Nat.le_trans h.ln (by decide)⟩
theorem sm_int {i : Int} (h : i.natAbs < 10 ^ 40) : Sm (.int i) := by
  refine ⟨?_, by simp [PyData.depth], ?_⟩
  · simp only [PyData.showable, decide_eq_true_eq]
    rcases Nat.eq_zero_or_pos i.natAbs with z | z
    · rw [z]
      decide
    · rw [Nat.log2_lt (Nat.ne_of_gt z)]
      exact Nat.lt_trans h (by decide +kernel)
  · simp only [PyData.shown]
    rw [ofString_len]
    exact Nat.le_trans (int_text_length_le10 (k := 40) (by decide) h) (by decide)
theorem sum_le {ds : List PyData} (h : ∀ d, d ∈ ds → Sm d) : ((PyData.shownAll ds).map (·.length)).sum ≤ 450 * ds.length ∧ (PyData.shownAll ds).length = ds.length ∧ PyData.showableAll ds = true ∧ PyData.depthAll ds ≤ 2 := by
  induction ds with
  | nil => exact ⟨by simp [PyData.shownAll], by simp [PyData.shownAll], by simp [PyData.showableAll], by simp [PyData.depthAll]⟩
  | cons d ds ih =>
    obtain ⟨i1, i2, i3, i4⟩ := ih fun x m => h x (List.mem_cons_of_mem _ m)
    have s := h d List.mem_cons_self
    have s1 := s.ln
    have s2 := s.dp
    refine ⟨?_, ?_, ?_, ?_⟩
    · simp only [PyData.shownAll, List.map_cons, List.sum_cons, List.length_cons]
      omega
    · simp only [PyData.shownAll, List.length_cons, i2]
    · simp only [PyData.showableAll, s.sh, i3, Bool.and_self]
    · simp only [PyData.depthAll]
      omega
theorem dxAll_ints {K : PySem.W.Frag} {H : Hp} : ∀ ks : List Int, DxAll K H (ks.map V.int) (ks.map PyData.int)
  | [] => .nil
  | k :: ks => .cons (.int k) (dxAll_ints ks)
mutual
theorem Dp.same {K : PySem.W.Frag} {H H' : Hp} (s : Same H H') : ∀ (v : V) (d : PyData), Dp K H v d → Dp K H' v d
  | _, _, .non => .non
  | _, _, .bl b => .bl b
  | _, _, .int i => .int i
  | _, _, .str x => .str x
  | _, _, .lst h a => .lst (s.seq h) (DpAll.same s _ _ a)
  | _, _, .tup h a => .tup (sqT_same s h) (DpAll.same s _ _ a)
theorem DpAll.same {K : PySem.W.Frag} {H H' : Hp} (s : Same H H') : ∀ (vs : List V) (ds : List PyData), DpAll K H vs ds → DpAll K H' vs ds
  | _, _, .nil => .nil
  | _, _, .cons h t => .cons (Dp.same s _ _ h) (DpAll.same s _ _ t)
end
theorem DpAll.snoc {K : PySem.W.Frag} {H : Hp} {v : V} {d : PyData} (h : Dp K H v d) : ∀ (vs : List V) (ds : List PyData), DpAll K H vs ds → DpAll K H (vs ++ [v]) (ds ++ [d])
  | _, _, .nil => .cons h .nil
  | _, _, .cons g t => .cons g (DpAll.snoc h _ _ t)
theorem Row.nil {α : Type} {f : α → HO} {H : Hp} : Row f H [] [] := ⟨rfl, fun i a p h => nomatch h⟩
theorem Row.cons {α : Type} {f : α → HO} {H : Hp} {a : Addr} {p : α} {as : List Addr} {ps : List α} (h : H a = some (f p)) (r : Row f H as ps) : Row f H (a :: as) (p :: ps) := by
  refine ⟨by rw [List.length_cons, List.length_cons, r.1], fun i b q e1 e2 => ?_⟩
  match i with
  | 0 => cases e1; cases e2; exact h
  | i + 1 => exact r.2 i b q e1 e2
def hide (p : Addr) (M : Hp) : Hp := fun b => if b = p then none else M b
theorem hide_same {p : Addr} {M : Hp} : Same (hide p M) M := fun b u e => by
  unfold hide at e
  split at e
  · cases e
  · exact e
theorem hide_up {p : Addr} {M M' : Hp} (s : Sbut p M M') : Same (hide p M) (hide p M') := fun b u e => by
  unfold hide at e ⊢
  split at e
  · cases e
  · rename_i n
    rw [if_neg n]
    exact s b u e n
theorem hide_in {p : Addr} {M M' : Hp} (n : M p = none) (s : Same M M') : Same M (hide p M') := fun b u e => by
  unfold hide
  rw [if_neg (ne_of_none e n)]
  exact s b u e
theorem Keep.free {d c p : Addr} {H H' : Hp} (a : Keep d c H H') (n : p ≠ d ∧ p ≠ c) (h : H' p = none) : H p = none := by
  cases e : H p with
  | none => rfl
  | some o =>
    rw [a p o e n.1 n.2] at h
    cases h
theorem hide_at {p b : Addr} {M : Hp} {o : HO} (n : b ≠ p) (e : M b = some o) : hide p M b = some o := by
  unfold hide
  rw [if_neg n]
  exact e
theorem flat_len {n : Nat} {v : V} : (List.replicate n [v]).flatten.length = n := by
  induction n with
  | zero => rfl
  | succ n ih => rw [List.replicate_succ, List.flatten_cons, List.length_append, ih]; show 1 + n = n + 1; omega
theorem sub_same {d c : Addr} {H H' : Hp} (s : Same H H') : Same (mask d c H) (mask d c H') := mask_keep fun b o e _ _ => s b o e
theorem Keep.of {d c : Addr} {H H' : Hp} (s : Same H H') : Keep d c H H' := fun b o e _ _ => s b o e
end Rs
namespace K14
open PySem PySem.Spec L2 Rt
open PyProof.Rows hiding St

def nV : Option Int → V
  | none => .non
  | some x => .int x
def spFloors (C : Addr) : Sp := fun vs H Q _ => ∃ (d c wd : Addr) (ps : List Pt) (rs : List Rl) (wide : Nat) (b : Bool), vs = [.ref d, .ref wd, .int wide, .bl b] ∧ Src H d c ∧ LWd C (mask d c H) wd ps rs ∧ ps.length ≤ 100 ∧ (∀ p, p ∈ ps → PtW p) ∧ 1 ≤ wide ∧ wide ≤ 1000 ∧
  ∀ (fl : Addr) (fos : List (Option Int)) (H' : Hp), mask d c H' fl = some (.lst (fos.map nV)) → fos.length = ps.length → (b = true → ∀ x, x ∈ fos → x ≠ none) → (∀ x, some x ∈ fos → -1000002000 ≤ x ∧ x ≤ 1000002000) → Src H' d c → Keep d c H H' → Q (.ref fl) H'
theorem somes_of : ∀ fos : List (Option Int), (∀ x, x ∈ fos → x ≠ none) → ∃ fs : List Int, fos.map nV = fs.map V.int ∧ fs.length = fos.length
  | [], _ => ⟨[], rfl, rfl⟩
  | none :: _, h => absurd rfl (h none List.mem_cons_self)
  | some x :: r, h => by
    obtain ⟨fs, e, l⟩ := somes_of r fun y m => h y (List.mem_cons_of_mem _ m)
    exact ⟨x :: fs, by rw [List.map_cons, List.map_cons, e]; rfl, by rw [List.length_cons, List.length_cons, l]⟩
section
variable {P : Program} {w : World} {K : PySem.W.Frag} {mg : Str → Option Value} {base : Heap} {f C : Addr} {fd : FuncData}

def prV (p : Str × Int) : HO := .tup [.str p.1, .int p.2]
def spIsT (C : Addr) : Sp := fun vs H Q _ => ∃ (wd q : Addr) (ps : List Pt) (rs : List Rl) (xs : List Int) (M : Nat), vs = [.ref wd, .ref q] ∧ LWd C H wd ps rs ∧ Fits ps rs M ∧ Row2 H q (xs.map V.int) ∧ xs.length = ps.length ∧
  ∀ (b : Bool) (H' : Hp), Same H H' → (b = true ↔ Keeps ps rs (xN xs)) → Q (.bl b) H'
theorem row2_sqa {K : PySem.W.Frag} {H : Hp} {q : Addr} {xs : List V} (h : Row2 H q xs) : ∃ t : Bool, ∀ H', Same H H' → SqA t K H' q xs := by
  rcases h with h | h
  · exact ⟨false, fun H' s => SqL.of (s _ _ h)⟩
  · exact ⟨true, fun H' s => SqT.of (s _ _ h)⟩
theorem paired_row {K : PySem.W.Frag} {H : Hp} : ∀ (ts : List Addr) (ns : List Str) (xs : List Int), xs.length = ns.length → Row prV H ts (ns.zip xs) → Paired (fun (p : Addr) (kv : Key × V) => SqT K H p [kV kv.1, kv.2]) ts (dictOf ns (xs.map V.int))
  | [], [], [], _, _ => .nil
  | _ :: _, [], [], _, r => absurd r.1 (by simp)
  | [], _ :: _, _ :: _, _, r => absurd r.1 (by simp)
  | _, [], _ :: _, l, _ => absurd l (by simp)
  | _, _ :: _, [], l, _ => absurd l (by simp)
  | t :: ts, n :: ns, x :: xs, l, r => .cons (SqT.of (r.2 0 t (n, x) rfl rfl)) (paired_row ts ns xs (by simpa using l) ⟨by have := r.1; simp at this ⊢; omega, fun i b q h1 h2 => r.2 (i + 1) b q h1 h2⟩)
theorem zip_get {ps : List Pt} {xs : List Int} {i : Nat} {p : Pt} {x : Int} (h1 : ps[i]? = some p) (h2 : xs[i]? = some x) : ((namesOf ps).zip xs)[i]? = some (p.1, x) := by
  rw [List.getElem?_zip_eq_some]
  exact ⟨by rw [List.getElem?_map, h1]; rfl, h2⟩
theorem refA {as : List Addr} {i : Nat} {a : Addr} {x : V} (h : (as.map V.ref)[i]? = some x) (e : as[i]? = some a) : x = .ref a := by
  rw [List.getElem?_map, e] at h
  exact (Option.some.inj h).symm
theorem intA {xs : List Int} {i : Nat} {a : Int} {x : V} (h : (xs.map V.int)[i]? = some x) (e : xs[i]? = some a) : x = .int a := by
  rw [List.getElem?_map, e] at h
  exact (Option.some.inj h).symm
theorem on_iff {f s x : Int} (h : 0 < s) : (x - f) % s = 0 ↔ upv f s x = x := by
  constructor
  · intro e
    have h1 := upv_le (f := f) (x := x) h
    have h2 : upv f s x ≤ x := Rise.upc_least h (Int.le_refl x) e
    omega
  · intro e
    have := upv_on f s x
    rwa [e] at this
theorem getD {H : Hp} {pl : Addr} {ns : List Str} {vs : List V} {i : Nat} {x : Str} {v : V} (h : H pl = some (.dK (dictOf ns vs))) (nd : ns.Nodup) (e1 : ns[i]? = some x) (e2 : vs[i]? = some v) : DGet H pl (.str x) (some v) := by
  have g := get_k (x := x) h
  rwa [dictOf_val ns vs i x v nd e1 e2] at g
theorem cut1 {x y z : V} : cutV [x, y, z] (some 1) none = [y, z] := rfl
theorem eqv_nilI (os : List Int) : PyData.eqv (.list (os.map PyData.int)) (.list []) = decide (os = []) := Rs.eqv_ints os []
section
variable {P : Program} {w : World} {K : PySem.W.Frag} {mg : Str → Option Value} {base : Heap} {f C : Addr} {fd : FuncData}

end
end
end K14
namespace K14
open PySem PySem.Spec L2 Rt
open PyProof.Rows hiding St

abbrev sRaised : Stmt := top 37
def spRaised (C : Addr) : Sp := fun vs H Q _ => ∃ (wd fl : Addr) (ps : List Pt) (rs : List Rl) (fs : List Int) (T : Nat → Int), vs = [.ref wd, .ref fl] ∧ LWd C H wd ps rs ∧ Fits ps rs 420 ∧ (∀ p, p ∈ ps → p.2.2 ≤ 60) ∧ Keeps ps rs T ∧ Row2 H fl (fs.map V.int) ∧ fs.length = ps.length ∧
  ∀ (L : Addr) (xs : List Int) (H' : Hp), Same H H' → H' L = some (.lst (xs.map V.int)) → Least ps rs fs xs → Q (.ref L) H'
def stX (ps : List Pt) (fs : List Int) (p : Nat) : Int := upv (fN ps p) (sN ps p) (xN fs p)
theorem rowN_set {n j : Nat} {Y : Nat → Int} {v : Int} : (rowN n Y).set j v = rowN n (fun q => if q = j then v else Y q) := by
  refine List.ext_getElem? fun m => ?_
  by_cases hm : m < n
  · rw [rowN_at hm]
    by_cases e : j = m
    · subst e
      rw [List.getElem?_set_self (by rw [rowN_len]; exact hm), if_pos rfl]
    · rw [List.getElem?_set_ne e, rowN_at hm, if_neg (fun z => e z.symm)]
  · rw [List.getElem?_eq_none (by rw [List.length_set, rowN_len]; omega), List.getElem?_eq_none (by rw [rowN_len]; omega)]
def prVV (p : Str × V) : HO := .tup [.str p.1, p.2]
theorem paired_rowV {K : PySem.W.Frag} {H : Hp} : ∀ (ts : List Addr) (ns : List Str) (xs : List V), xs.length = ns.length → Row prVV H ts (ns.zip xs) → Paired (fun (p : Addr) (kv : Key × V) => SqT K H p [kV kv.1, kv.2]) ts (dictOf ns xs)
  | [], [], [], _, _ => .nil
  | _ :: _, [], [], _, r => absurd r.1 (by simp)
  | [], _ :: _, _ :: _, _, r => absurd r.1 (by simp)
  | _, [], _ :: _, l, _ => absurd l (by simp)
  | _, _ :: _, [], l, _ => absurd l (by simp)
  | t :: ts, n :: ns, x :: xs, l, r => .cons (SqT.of (r.2 0 t (n, x) rfl rfl)) (paired_rowV ts ns xs (by simpa using l) ⟨by have := r.1; simp at this ⊢; omega, fun i b q h1 h2 => r.2 (i + 1) b q h1 h2⟩)
theorem off_le {N : Nat} {s : Nat → Int} : ∀ p, (∀ q, q < p → 0 < s q) → Rise2.off N s p ≤ p * N
  | 0, _ => Nat.zero_le _
  | p + 1, h => by
    have ih := off_le (N := N) p fun q l => h q (Nat.lt_succ_of_lt l)
    have := Int.ediv_le_self (s p) (show (0 : Int) ≤ N by omega)
    show Rise2.off N s p + ((N : Int) / s p).toNat ≤ (p + 1) * N
    rw [Nat.add_mul, Nat.one_mul]
    omega
theorem Fits.lcm_le {ps : List Pt} {rs : List Rl} (h : Fits ps rs 420) : lcmOf ps ≤ 420 := Nat.le_of_dvd (by decide) (lcm_dvd ps 1 (Nat.one_dvd 420) fun p m => (h.dv p m).2)
theorem Fits.off_le {ps : List Pt} {rs : List Rl} (h : Fits ps rs 420) : offOf ps ≤ ps.length * 420 :=
  Nat.le_trans (K14.off_le ps.length fun q l => (h.sd q l).1) (Nat.mul_le_mul_left _ h.lcm_le)
theorem Fits.offb {ps : List Pt} {rs : List Rl} (h : Fits ps rs 420) : offOf ps ≤ 42000 := by
  have := h.off_le
  have := h.good.few
  omega
abbrev nwK (ps : List Pt) (Y : Nat → Int) : HO := .dK (dictOf (namesOf ps) ((rowN ps.length Y).map V.int))
section
variable {P : Program} {w : World} {K : PySem.W.Frag} {mg : Str → Option Value} {base : Heap} {f C : Addr} {fd : FuncData}

theorem scRais : FnScope ["world", "floors", "points", "names", "now", "point", "floor", "clocks", "period", "laps", "lap", "is_new", "start", "end", "least", "late", "name"] ["world", "floors"] (defScope sRaised) := ⟨rfl, rfl, rfl, by decide +kernel, rfl, by decide +kernel, by decide +kernel⟩
theorem ok_raised (F : Fun K "_law_raised" "_law_raised" sRaised f fd) (T : Lw mg) (zdict : mg "dict" = none) (zsum : mg "sum" = none) (cU : Cb P w K mg base 1 "_law_up" spLUpX) (cPer : Cb P w K mg base 1 "_law_period" spLPer) : FnG P w K mg base 2 f fd ["world", "floors"] (spRaised C) := by
  refine okG F scRais (fun vs H Q E h => ?_) (fun cdv A outer s H vs Q E hg hr h => ?_)
  · obtain ⟨wd, fl, ps, rs, fs, TT, rfl, _⟩ := h
    rfl
  · obtain ⟨wd, fl, ps, rs, fs, TT, rfl, lw, fit, s12, kT, hfl, lfs, k⟩ := h
    have hu64 := hr.units
    have hu : _ + 1 < cLine := hu_of hr
    refine ⟨_, (pss_cons (ps_par (i := 2) (j := 3) rfl scRais.nd rfl rfl (by decide) rfl rfl (pa_cons (pe_dget hu (pv 0) pe_str (fun _ _ => rfl)) (pa_cons (pe_lc (own := [("point", 5)]) (by rfl) scRais.nd (pi_list (pe_dget hu (pv 0) pe_str (fun _ _ => rfl))) (blkOk_by (N := ["world", "floors", "points", "names", "now", "point", "floor", "clocks", "period", "laps", "lap", "is_new", "start", "end", "least", "late", "name"]) (sc := defScope sRaised) (by decide +kernel)) (fun _ _ _ _ _ => (pg_name (i := 5) scRais.nd rfl (.inl rfl))) (fun _ _ _ _ _ => pts_nil) (fun _ _ _ _ _ => (pe_ix (ix_tup : IxR _ (rIxT K)) (pv 5) pe_int (fun _ _ => rfl)))) pa_nil)) (by rfl))
      (pss_cons (ps_set (i := 4) scRais.nd rfl (.inr rfl) pe_dnewK)
      (pss_cons (ps_for PassesOwn.never rfl (pi_zipS (by rfl) T.zzip (pa_cons (pv 2) (pa_cons (pv 1) pa_nil))) (pg_tup (by rfl) (pgs_cons (pg_name (i := 5) scRais.nd rfl (.inl rfl)) (pgs_cons (pg_name (i := 6) scRais.nd rfl (.inl rfl)) pgs_nil)))
        (pss_one (ps_if (pt_cmpR op_notN (pv 6) pe_non (nomark _)) (pss_one (ps_dput hu (pv 4) (pe_ix ix_tup (pv 5) pe_int (fun _ _ => rfl)) (pe_k cU hg hr (by decide) (by rfl) (pa_cons (pe_slice sl_tup (pv 5) (po_some pe_int) po_none) (pa_cons (pv 6) pa_nil))) rfl)) pss_nil)))
      (pss_cons (ps_set (i := 7) scRais.nd rfl (.inl rfl) (pe_callTy (call_dictP rfl) (by rfl) zdict (by decide +kernel) (pa_cons (pe_lc (own := [("point", 5)]) (by rfl) scRais.nd (pi_list (pv 2)) (blkOk_by (N := ["world", "floors", "points", "names", "now", "point", "floor", "clocks", "period", "laps", "lap", "is_new", "start", "end", "least", "late", "name"]) (sc := defScope sRaised) (by decide +kernel)) (fun _ _ _ _ _ => (pg_name (i := 5) scRais.nd rfl (.inl rfl))) (fun _ _ _ _ _ => pts_nil) (fun _ _ _ _ _ => (pe_tup (pa_cons (pe_ix (ix_tup : IxR _ (rIxT K)) (pv 5) pe_int (fun _ _ => rfl)) (pa_cons (pe_slice (sl_tup : SlR _ (rSlT K)) (pv 5) (po_some pe_int) po_none) pa_nil))))) pa_nil)))
      (pss_cons (ps_set (i := 8) scRais.nd rfl (.inr rfl) (pe_k cPer hg hr (by decide) (by rfl) (pa_cons (pv 2) pa_nil)))
      (pss_cons (ps_set (i := 9) scRais.nd rfl (.inl rfl) (pe_op op_add pe_int (pe_callB (cr_sum (by rfl)) (by rfl) zsum (by decide +kernel) (pa_cons (pe_lc (own := [("point", 5)]) (by rfl) scRais.nd (pi_list (pv 2)) (blkOk_by (N := ["world", "floors", "points", "names", "now", "point", "floor", "clocks", "period", "laps", "lap", "is_new", "start", "end", "least", "late", "name"]) (sc := defScope sRaised) (by decide +kernel)) (fun _ _ _ _ _ => (pg_name (i := 5) scRais.nd rfl (.inl rfl))) (fun _ _ _ _ _ => pts_nil) (fun _ _ _ _ _ => (pe_op op_fdivW (pv 8) (pe_ix (ix_tup : IxR _ (rIxT K)) (pv 5) pe_int (fun _ _ => rfl))))) pa_nil))))
      (pss_cons (ps_for PassesOwn.never rfl (pi_range1 (by rfl) T.zrange (pa_cons (pv 9) pa_nil)) (pg_name (i := 10) scRais.nd rfl (.inl rfl))
        (pss_cons (ps_set (i := 11) scRais.nd rfl (.inl rfl) pe_bl)
        (pss_cons (ps_for PassesOwn.never rfl (pi_list (pe_dget hu (pv 0) pe_str (fun _ _ => rfl))) (pg_tup (by rfl) (pgs_cons (pg_name (i := 12) scRais.nd rfl (.inl rfl)) (pgs_cons (pg_name (i := 13) scRais.nd rfl (.inl rfl)) (pgs_cons (pg_name (i := 14) scRais.nd rfl (.inl rfl)) pgs_nil))))
          (pss_one (ps_if (pt_cmp (pc_din hu (pv 12) (pv 4))) (pss_cons (ps_set (i := 15) scRais.nd rfl (.inl rfl) (pe_k cU hg hr (by decide) (by rfl) (pa_cons (pe_dget hu (pv 7) (pv 13) (fun _ _ => rfl)) (pa_cons (pe_op op_add (pe_dget hu (pv 4) (pv 12) (fun _ _ => rfl)) (pv 14)) pa_nil))))
            (pss_one (ps_if (PW.pt (pw_or (pt_cmp (pc_dnotin hu (pv 13) (pv 4))) (pw_or1 (pt_cmpR op_lt (pe_dget hu (pv 4) (pv 13) (fun _ _ => rfl)) (pv 15) (nomark _))))) (pss_cons (ps_dput hu (pv 4) (pv 13) (pv 15) rfl)
              (pss_one (ps_set (i := 11) scRais.nd rfl (.inl rfl) pe_bl))) pss_nil))) pss_nil)))
        (pss_one (ps_if (pt_not (pt_val (pv 11))) (pss_one (ps_ret (pe_lc (own := [("name", 16)]) (by rfl) scRais.nd (pi_list (pv 3)) (blkOk_by (N := ["world", "floors", "points", "names", "now", "point", "floor", "clocks", "period", "laps", "lap", "is_new", "start", "end", "least", "late", "name"]) (sc := defScope sRaised) (by decide +kernel)) (fun _ _ _ _ _ => (pg_name (i := 16) scRais.nd rfl (.inl rfl))) (fun _ _ _ _ _ => pts_nil) (fun _ _ _ _ _ => (pe_dget1 hu (pv 4) (pv 16) ⟨by rfl, by rfl, by rfl, by rfl⟩))))) pss_nil)))))
      (pss_one (ps_ret pe_non))))))))), ?_⟩
    obtain ⟨PA, RA, n, as, bs, hwd, hP, hR, rowP, rowR, net⟩ := lw.ex
    obtain ⟨t, sq⟩ := row2_sqa (K := K) hfl
    have few := fit.good.few
    have fewR := fit.good.fewR
    have nl : (namesOf ps).length = ps.length := List.length_map ..
    have las : (as.map V.ref).length = ps.length := by rw [List.length_map]; exact rowP.1
    have lxs : (as.map V.ref).length = (fs.map V.int).length := by rw [las, List.length_map, lfs]
    -- names
    refine ⟨_, rfl, wd, _, rfl, getP hwd, _, rfl, wd, _, rfl, getP hwd, PA, rfl, ⟨_, SqL.of hP⟩, fun NA nNA => ?_⟩
    refine lc_it walk_list (fun i H1 => Same H H1 ∧ H1 NA = some (.lst (((namesOf ps).take i).map V.str))) ⟨same_new nNA, upd_same⟩ (fun i H1 _ z => SqL.of (z.1 _ _ hP)) ?_ ?_
    · rintro i y H1 H2 hi ⟨s1, hD⟩ ⟨rfl, hy⟩
      have hip : i < ps.length := by rw [las] at hi; exact hi
      have ep := List.getElem?_eq_getElem hip
      have ea := List.getElem?_eq_getElem (show i < as.length by rw [rowP.1]; exact hip)
      obtain rfl := refA hy ea
      have pa := s1 _ _ (rowP.2 i _ _ ea ep)
      refine ⟨rfl, _, rfl, as[i]'(by rw [rowP.1]; exact hip), _, 0, _, rfl, rfl, SqT.of pa, rfl, ?_⟩
      refine ⟨_, hD, small1000 (by rw [List.length_map, List.length_take]; omega), fun b o z => by rw [upd_ne (ne_of_none z nNA)]; exact s1 b o z, ?_⟩
      rw [upd_same, List.take_succ, show (namesOf ps)[i]? = some ps[i].1 by rw [List.getElem?_map, ep]; rfl, List.map_append]
      rfl
    rintro H1 ⟨s1, hNA⟩
    rw [las, List.take_of_length_le (by omega)] at hNA
    refine ⟨_, _, rfl, ?_⟩
    intro NW nNW
    have s2 := s1.trans (same_new (o := .dK []) nNW)
    have nNW0 : H NW = none := none_same s1 nNW
    have hNA2 := same_new (o := .dK []) nNW _ _ hNA
    have hNW := upd_same (H := H1) (a := NW) (o := .dK [])
    have nea : NA ≠ NW := ne_of_none hNA nNW
    have newd : wd ≠ NW := ne_of_none (s1 _ _ hwd) nNW
    revert s2 hNA2 hNW
    generalize upd H1 NW (.dK []) = H2
    intro s2 hNA hNW
    clear nNW s1
    -- floors
    refine ⟨_, rfl, _, rfl, false, t, PA, fl, _, _, rfl, SqL.of (s2 _ _ hP), sq H2 s2, ?_⟩
    refine for_it (walk_zA lxs) (fun i σ H3 => ∃ (v5 v6 v7 v8 v9 v10 v11 v12 v13 v14 v15 v16 : Option V), σ = [some (.ref wd), some (.ref fl), some (.ref PA), some (.ref NA), some (.ref NW), v5, v6, v7, v8, v9, v10, v11, v12, v13, v14, v15, v16] ∧ Sbut NW H2 H3 ∧ Same H H3 ∧ H3 NW = some (.dK (dictOf ((namesOf ps).take i) (((rowN ps.length (stX ps fs)).take i).map V.int)))) ⟨_, _, _, _, _, _, _, _, _, _, _, _, rfl, Sbut.refl, s2, hNW⟩
      (fun i σ H3 _ ⟨_, _, _, _, _, _, _, _, _, _, _, _, _, b3, s3, _⟩ => ⟨SqL.of (s3 _ _ hP), sq H3 s3⟩) ?_ ?_
    · rintro i y σ H3 H4 hi ⟨v5, v6, v7, v8, v9, v10, v11, v12, v13, v14, v15, v16, rfl, b3, s3, hN3⟩ ⟨T1, x1, x2, rfl, nT, rfl, e1, e2⟩
      have hip : i < ps.length := by rw [las] at hi; exact hi
      have hif : i < fs.length := by omega
      have ep := List.getElem?_eq_getElem hip
      have ea := List.getElem?_eq_getElem (show i < as.length by rw [rowP.1]; exact hip)
      have ef := List.getElem?_eq_getElem hif
      obtain rfl := refA e1 ea
      obtain rfl := intA e2 ef
      have s4 := s3.trans (same_new (o := .tup [.ref (as[i]'(by rw [rowP.1]; exact hip)), .int fs[i]]) nT)
      have b4 := b3.trans (Sbut.of (same_new (o := .tup [.ref (as[i]'(by rw [rowP.1]; exact hip)), .int fs[i]]) nT))
      have hN4 := same_new (o := .tup [.ref (as[i]'(by rw [rowP.1]; exact hip)), .int fs[i]]) nT _ _ hN3
      have hT := upd_same (H := H3) (a := T1) (o := .tup [.ref (as[i]'(by rw [rowP.1]; exact hip)), .int fs[i]])
      revert s4 b4 hN4 hT
      generalize upd H3 T1 (.tup [.ref (as[i]'(by rw [rowP.1]; exact hip)), .int fs[i]]) = H4
      intro s4 b4 hN4 hT
      have pa := s4 _ _ (rowP.2 i _ _ ea ep)
      have s0 := (fit.sd i hip).1
      rw [sN_at ep] at s0
      refine ⟨T1, _, rfl, SqT.of hT, rfl, _, _, rfl, _, _, rfl, rfl, ?_⟩
      refine ⟨_, rfl, rfl, _, rfl, iteT ?_⟩
      refine ⟨_, rfl, 1, rfl, as[i]'(by rw [rowP.1]; exact hip), _, rfl, SqT.of pa, (by show ¬ (HT.sIx 3 0 (some 1) = 0 ∧ HT.sIx 3 3 none = 3); decide), fun t2 nt2 => ?_⟩
      have s5 := s4.trans (same_new (o := .tup [.int ps[i].2.1, .int ps[i].2.2]) nt2)
      have b5 := b4.trans (Sbut.of (same_new (o := .tup [.int ps[i].2.1, .int ps[i].2.2]) nt2))
      have hN5 := same_new (o := .tup [.int ps[i].2.1, .int ps[i].2.2]) nt2 _ _ hN4
      refine ⟨_, rfl, t2, ps[i].2.1, ps[i].2.2, fs[i], rfl, upd_same, s0, ?_⟩
      have ek : (namesOf ps)[i]? = some ps[i].1 := by rw [List.getElem?_map, ep]; rfl
      have nin : ps[i].1 ∉ (namesOf ps).take i := by
        rw [← List.map_take]
        exact nodup_at fit.good.nd hip
      have ln : (((rowN ps.length (stX ps fs)).take i).map V.int).length = ((namesOf ps).take i).length := by rw [List.length_map, List.length_take, List.length_take, rowN_len, nl]
      have ex : upv ps[i].2.1 ps[i].2.2 fs[i] = stX ps fs i := by
        unfold stX
        rw [fN_at ep, sN_at ep, xN_at ef]
      have eput : putK (dictOf ((namesOf ps).take i) (((rowN ps.length (stX ps fs)).take i).map V.int)) (Sum.inr ps[i].1) (.int (upv ps[i].2.1 ps[i].2.2 fs[i])) = dictOf ((namesOf ps).take (i + 1)) (((rowN ps.length (stX ps fs)).take (i + 1)).map V.int) := by
        rw [dictOf_new ln nin, List.take_succ, List.take_succ, ek, rowN_at hip, ex, List.map_append]
        rfl
      refine ⟨_, rfl, _, rfl, as[i]'(by rw [rowP.1]; exact hip), _, 0, _, rfl, rfl, SqT.of (s5 _ _ (rowP.2 i _ _ ea ep)), rfl, NW, _, rfl, DPut.k (k := Sum.inr ps[i].1) hN5 (small1000 (by rw [dictOf_len ln, List.length_take]; omega)), ?_⟩
      rw [eput]
      exact ⟨_, _, _, _, _, _, _, _, _, _, _, _, rfl, b5.trans Sbut.put, fun b o z => by rw [upd_ne (ne_of_none z nNW0)]; exact s5 b o z, upd_same⟩
    · rintro σ H3 ⟨v5, v6, v7, v8, v9, v10, v11, v12, v13, v14, v15, v16, rfl, b3, s3, hN3⟩
      rw [las, List.take_of_length_le (by omega), List.take_of_length_le (by rw [rowN_len]; exact Nat.le_refl _)] at hN3
      have hNA3 := b3 _ _ hNA nea
      clear b3 hNA hNW s2
      -- clocks
      refine ⟨_, rfl, PA, rfl, ⟨_, SqL.of (s3 _ _ hP)⟩, fun D nD => ?_⟩
      refine lc_it walk_list (fun i H4 => Same H3 H4 ∧ ∃ ts cs : List Addr, H4 D = some (.lst (ts.map V.ref)) ∧ Row prVV H4 ts (((namesOf ps).take i).zip (cs.map V.ref)) ∧ Row ckV H4 cs (ps.take i)) ⟨same_new nD, [], [], upd_same, ⟨by simp, fun _ _ _ z => by cases z⟩, rfl, fun _ _ _ z => by cases z⟩ (fun i H4 _ z => SqL.of (z.1 _ _ (s3 _ _ hP))) ?_ ?_
      · rintro i y H4 H5 hi ⟨s4, ts, cs, hD, row, rowc⟩ ⟨rfl, hy⟩
        have hip : i < ps.length := by rw [las] at hi; exact hi
        have ep := List.getElem?_eq_getElem hip
        have ea := List.getElem?_eq_getElem (show i < as.length by rw [rowP.1]; exact hip)
        obtain rfl := refA hy ea
        have s34 := s3.trans s4
        have pa := s34 _ _ (rowP.2 i _ _ ea ep)
        have ek : (namesOf ps)[i]? = some ps[i].1 := by rw [List.getElem?_map, ep]; rfl
        have lc : cs.length = i := by rw [rowc.1, List.length_take]; omega
        refine ⟨rfl, _, rfl, as[i]'(by rw [rowP.1]; exact hip), _, 0, _, rfl, rfl, SqT.of pa, rfl, _, rfl, 1, rfl, as[i]'(by rw [rowP.1]; exact hip), _, rfl, SqT.of pa, (by show ¬ (HT.sIx 3 0 (some 1) = 0 ∧ HT.sIx 3 3 none = 3); decide), fun t2 nt2 => ⟨(by show 2 ≤ sizeLine; decide), fun tp ntp => ?_⟩⟩
        have z1 := same_new (o := ckV ps[i]) nt2
        have z2 := same_new (o := prVV (ps[i].1, .ref t2)) ntp
        have z12 := z1.trans z2
        have hD6 := z12 _ _ hD
        refine ⟨_, hD6, small1000 (by rw [List.length_map, row.1, List.length_zip, List.length_take, nl]; omega), fun b o z => by rw [upd_ne (ne_of_none z nD)]; exact (s4.trans z12) b o z, ts ++ [tp], cs ++ [t2], ?_, ?_, ?_⟩
        · rw [upd_same, List.map_append]
          rfl
        · rw [List.take_succ, ek, List.map_append, List.zip_append (by rw [List.length_take, nl, List.length_map, lc]; omega)]
          refine Row.snoc ((row.same z12).but (fun b o z ne => by rw [upd_ne ne]; exact z) (row_not (row.same z12) hD6 (fun p z => by cases z))) ?_
          rw [upd_ne (ne_of_none (z1 _ _ hD) ntp).symm, upd_same]
          rfl
        · rw [List.take_succ, ep]
          refine Row.snoc ((rowc.same z12).but (fun b o z ne => by rw [upd_ne ne]; exact z) (row_not (rowc.same z12) hD6 (fun p z => by cases z))) ?_
          rw [upd_ne (ne_of_none hD nt2).symm]
          exact z2 _ _ upd_same
      rintro H4 ⟨s4, ts, cs, hD, row, rowc⟩
      rw [las, List.take_of_length_le (by omega)] at row
      rw [las, List.take_of_length_le (Nat.le_refl _)] at rowc
      have lcs : (cs.map V.ref).length = (namesOf ps).length := by rw [List.length_map, rowc.1, nl]
      refine ⟨D, ts, dictOf (namesOf ps) (cs.map V.ref), rfl, SqL.of hD, paired_rowV ts _ _ lcs row, fun CK nCK => ?_⟩
      rw [dictOf_merge lcs fit.good.nd]
      have z := same_new (o := .dK (dictOf (namesOf ps) (cs.map V.ref))) nCK
      have s5 := (s3.trans s4).trans z
      have hN5 := (s4.trans z) _ _ hN3
      have hNA5 := (s4.trans z) _ _ hNA3
      have rowc5 := rowc.same z
      have hCK := upd_same (H := H4) (a := CK) (o := .dK (dictOf (namesOf ps) (cs.map V.ref)))
      have neCK : CK ≠ NW := (ne_of_none (s4 _ _ hN3) nCK).symm
      revert s5 hN5 hNA5 rowc5 hCK
      generalize upd H4 CK (.dK (dictOf (namesOf ps) (cs.map V.ref))) = H5
      intro s5 hN5 hNA5 rowc5 hCK
      clear z row rowc hD s4 nCK nD hNA3 hN3 s3
      -- period
      refine ⟨_, rfl, PA, as, ps, rfl, s5 _ _ hP, rowP.same s5, fun p m => ⟨(fit.dv p m).1, s12 p m, (fit.dv p m).2⟩, fun H6 s6' => ?_⟩
      have s6 := s5.trans s6'
      have hN6 := s6' _ _ hN5
      have hNA6 := s6' _ _ hNA5
      have rowc6 := rowc5.same s6'
      have hCK6 := s6' _ _ hCK
      clear hCK rowc5 hNA5 hN5 s5 s6'
      -- laps
      have N0 := fit.N0
      have Nlt := fit.Nlt
      refine ⟨_, rfl, PA, rfl, ⟨_, SqL.of (s6 _ _ hP)⟩, fun D nD => ?_⟩
      refine lc_it walk_list (fun i H1 => Same H6 H1 ∧ H1 D = some (.lst (((ps.take i).map fun p => (lcmOf ps : Int) / p.2.2).map V.int))) ⟨same_new nD, upd_same⟩ (fun i H1 _ z => SqL.of (z.1 _ _ (s6 _ _ hP))) ?_ ?_
      · rintro i y H1 H2 hi ⟨s1, hD⟩ ⟨rfl, hy⟩
        have hip : i < ps.length := by rw [las] at hi; exact hi
        have ep := List.getElem?_eq_getElem hip
        have ea := List.getElem?_eq_getElem (show i < as.length by rw [rowP.1]; exact hip)
        obtain rfl := refA hy ea
        have pa := s1 _ _ (s6 _ _ (rowP.2 i _ _ ea ep))
        obtain ⟨k1, k2⟩ := fit.good.ok _ (List.getElem_mem hip)
        refine ⟨rfl, _, rfl, _, rfl, as[i]'(by rw [rowP.1]; exact hip), _, 2, _, rfl, rfl, SqT.of pa, rfl, _, _, rfl, rfl, wide_div (b := 60) (by omega) (by omega) (by omega) (by omega), ?_⟩
        refine ⟨_, hD, small1000 (by rw [List.length_map, List.length_map, List.length_take]; omega), fun b o z => by rw [upd_ne (ne_of_none z nD)]; exact s1 b o z, ?_⟩
        rw [upd_same, List.take_succ, ep, List.map_append, List.map_append]
        rfl
      rintro H7 ⟨s7, hD⟩
      rw [List.take_of_length_le (by rw [las]; exact Nat.le_refl _)] at hD
      refine ⟨D, _, rfl, SqL.of hD, ?_⟩
      rw [off_sum fit]
      have hN7 := s7 _ _ hN6
      have hNA7 := s7 _ _ hNA6
      have rowc7 := rowc6.same s7
      have hCK7 := s7 _ _ hCK6
      have s7 := s6.trans s7
      clear hD nD hCK6 rowc6 hNA6 hN6 s6
      refine ⟨_, _, rfl, rfl, ?_⟩
      have offb := fit.offb
      have hN7 : H7 NW = some (nwK ps (stX ps fs)) := hN7
      have neRA : RA ≠ NW := ne_of (s7 _ _ hR) hN7 (by intro z; cases z)
      have rowR7 := rowR.same s7
      have nbs : NW ∉ bs := row_not rowR7 hN7 (fun p z => by cases z)
      have ncs : NW ∉ cs := row_not rowc7 hN7 (fun p z => by cases z)
      have hwd7 := s7 _ _ hwd
      have hR7 := s7 _ _ hR
      refine ⟨_, rfl, (2 : Int) + (offOf ps : Nat), rfl, by omega, by omega, ?_⟩
      rw [show ((2 : Int) + (offOf ps : Nat)).toNat = 2 + offOf ps by omega]
      refine for_range (lo := 0) (fun m σ H8 => ∃ (v10 v11 v12 v13 v14 v15 v16 : Option V) (Y : Nat → Int) (L : Nat → Nat), σ = [some (.ref wd), some (.ref fl), some (.ref PA), some (.ref NA), some (.ref NW), v5, v6, some (.ref CK), some (.int (lcmOf ps : Nat)), some (.int (2 + (offOf ps : Nat))), v10, v11, v12, v13, v14, v15, v16] ∧
        Sbut NW H7 H8 ∧ H8 NW = some (nwK ps Y) ∧ Stand ps rs TT (stX ps fs) Y L m 0 ∧ (m = 0 ∨ m + 1 ≤ offOf ps))
        ⟨_, _, _, _, _, _, _, _, _, rfl, Sbut.refl, hN7, Stand.start (fun p _ => upv_on _ _ _), .inl rfl⟩ ?_ ?_
      · clear v10 v11 v12 v13 v14 v15 v16
        rintro m σ H8 hm ⟨v10, v11, v12, v13, v14, v15, v16, Y, L, rfl, b8, hN8, st, far⟩
        refine ⟨_, rfl, wd, _, rfl, getR (b8 _ _ hwd7 newd), RA, rfl, ⟨_, SqL.of (b8 _ _ hR7 neRA)⟩, ?_⟩
        refine for_it walk_list (fun t σ H9 => ∃ (v12 v13 v14 v15 : Option V) (b : Bool) (Y3 : Nat → Int) (L3 : Nat → Nat), σ = [some (.ref wd), some (.ref fl), some (.ref PA), some (.ref NA), some (.ref NW), v5, v6, some (.ref CK), some (.int (lcmOf ps : Nat)), some (.int (2 + (offOf ps : Nat))), some (.int (0 + (m : Nat))), some (.bl b), v12, v13, v14, v15, v16] ∧
          Sbut NW H7 H9 ∧ H9 NW = some (nwK ps Y3) ∧ Stand ps rs TT (stX ps fs) Y3 L3 m t ∧ (b = true → m + 2 ≤ offOf ps) ∧ (b = false → ∀ k i j l, RuleAt ps rs k i j l → k < t → Y3 i + l ≤ Y3 j))
          ⟨_, _, _, _, false, Y, L, rfl, b8, hN8, st, (fun z => nomatch z), fun _ k i j l _ lt => absurd lt (Nat.not_lt_zero k)⟩ (fun t σ H9 _ ⟨_, _, _, _, _, _, _, _, b9, _⟩ => SqL.of (b9 _ _ hR7 neRA)) ?_ ?_
        · rintro t y σ H9 H10 ht ⟨v12, v13, v14, v15, b, Y3, L3, rfl, b9, hN9, st3, hg3, hk3⟩ ⟨rfl, hy⟩
          have ht' : t < rs.length := by rw [List.length_map, rowR.1] at ht; exact ht
          have et := List.getElem?_eq_getElem ht'
          have eb := List.getElem?_eq_getElem (show t < bs.length by rw [rowR.1]; exact ht')
          obtain rfl := refA hy eb
          have pb := b9 _ _ (rowR7.2 t _ _ eb et) (fun z => nbs (by rw [← z]; exact List.getElem_mem _))
          obtain ⟨m1, m2⟩ := fit.good.ends _ (List.getElem_mem ht')
          have r : RuleAt ps rs t (idx ps rs[t].1) (idx ps rs[t].2.1) rs[t].2.2 := ⟨rs[t], et, idx_at m1, idx_at m2, rfl⟩
          obtain ⟨hi, hj, _⟩ := r.ends
          have ej := List.getElem?_eq_getElem hj
          have ecj := List.getElem?_eq_getElem (show idx ps rs[t].2.1 < cs.length by rw [rowc7.1]; exact hj)
          have sj := (fit.sd _ hj).1
          rw [sN_at ej] at sj
          have ga := getD hN9 fit.good.nd (idx_at m1) (show ((rowN ps.length Y3).map V.int)[idx ps rs[t].1]? = some (.int (Y3 (idx ps rs[t].1))) by rw [List.getElem?_map, rowN_at hi]; rfl)
          have gb := getD hN9 fit.good.nd (idx_at m2) (show ((rowN ps.length Y3).map V.int)[idx ps rs[t].2.1]? = some (.int (Y3 (idx ps rs[t].2.1))) by rw [List.getElem?_map, rowN_at hj]; rfl)
          have gc := getD (b9 _ _ hCK7 neCK) fit.good.nd (idx_at m2) (show (cs.map V.ref)[idx ps rs[t].2.1]? = some (.ref (cs[idx ps rs[t].2.1]'(by rw [rowc7.1]; exact hj))) by rw [List.getElem?_map, ecj]; rfl)
          have htc := b9 _ _ (rowc7.2 _ _ _ ecj ej) (fun z => ncs (by rw [← z]; exact List.getElem_mem _))
          refine ⟨bs[t]'(by rw [rowR.1]; exact ht'), _, rfl, SqT.of pb, rfl, _, _, rfl, _, _, rfl, _, _, rfl, rfl, ?_⟩
          refine ⟨_, rfl, _, rfl, NW, _, rfl, ga, _, rfl, iteT ?_⟩
          refine ⟨_, rfl, _, rfl, CK, _, rfl, gc, _, rfl, _, rfl, NW, _, rfl, ga, _, rfl, _, _, rfl, rfl, _, ps[idx ps rs[t].2.1].2.1, ps[idx ps rs[t].2.1].2.2, _, rfl, htc, sj, ?_⟩
          refine ⟨_, rfl, _, rfl, NW, _, rfl, gb, _, rfl, iteF ?_⟩
          refine ⟨_, rfl, _, rfl, NW, _, rfl, gb, _, rfl, _, _, rfl, rfl, _, rfl, ?_⟩
          have fx : fN ps (idx ps rs[t].2.1) = ps[idx ps rs[t].2.1].2.1 := fN_at ej
          have sx : sN ps (idx ps rs[t].2.1) = ps[idx ps rs[t].2.1].2.2 := sN_at ej
          by_cases lt : Y3 (idx ps rs[t].2.1) < upv ps[idx ps rs[t].2.1].2.1 ps[idx ps rs[t].2.1].2.2 (Y3 (idx ps rs[t].1) + rs[t].2.2)
          · rw [decide_eq_true lt]
            refine iteT ?_
            obtain ⟨st4, c1, c2⟩ := st3.raise fit kT r (by rw [fx, sx]; exact lt)
            have eput : putK (dictOf (namesOf ps) ((rowN ps.length Y3).map V.int)) (Sum.inr rs[t].2.1) (.int (upv ps[idx ps rs[t].2.1].2.1 ps[idx ps rs[t].2.1].2.2 (Y3 (idx ps rs[t].1) + rs[t].2.2))) = dictOf (namesOf ps) ((rowN ps.length (fun q => if q = idx ps rs[t].2.1 then upv ps[idx ps rs[t].2.1].2.1 ps[idx ps rs[t].2.1].2.2 (Y3 (idx ps rs[t].1) + rs[t].2.2) else Y3 q)).map V.int) := by
              rw [dictOf_put _ _ _ _ _ fit.good.nd (by rw [List.length_map, rowN_len, nl]) (idx_at m2), ← rowN_set, List.map_set]
            rw [fx, sx] at st4
            refine ⟨_, rfl, _, rfl, _, rfl, NW, _, rfl, DPut.k (k := Sum.inr rs[t].2.1) hN9 (small1000 (by rw [dictOf_len (by rw [List.length_map, rowN_len, nl]), nl]; omega)), ?_⟩
            rw [eput]
            exact ⟨_, _, _, _, true, _, _, rfl, b9.trans Sbut.put, upd_same, st4, fun _ => c1, (fun z => nomatch z)⟩
          · rw [decide_eq_false lt]
            refine iteF ?_
            have le : Y3 (idx ps rs[t].1) + rs[t].2.2 ≤ Y3 (idx ps rs[t].2.1) := by
              have := upv_le (f := ps[idx ps rs[t].2.1].2.1) (x := Y3 (idx ps rs[t].1) + rs[t].2.2) sj
              omega
            refine ⟨_, _, _, _, b, Y3, L3, rfl, b9, hN9, st3.still fit.good r le, hg3, fun z k i j l r' lt2 => ?_⟩
            by_cases e : k = t
            · subst e
              obtain ⟨rfl, rfl, rfl⟩ := r.uniq fit.good r'
              exact le
            · exact hk3 z k i j l r' (by omega)
        · rintro σ H9 ⟨v12, v13, v14, v15, b, Y3, L3, rfl, b9, hN9, st3, hg3, hk3⟩
          rw [List.length_map, rowR.1] at st3 hk3
          refine ⟨_, rfl, b, rfl, ?_⟩
          cases b with
          | true =>
            refine iteF ?_
            have c := hg3 rfl
            exact ⟨_, _, _, _, _, _, _, Y3, L3, rfl, b9, hN9, st3.next, .inr (by omega)⟩
          | false =>
            refine iteT ?_
            have kY : Keeps ps rs Y3 := ⟨st3.on, fun k i j l r => hk3 rfl k i j l r r.ends.2.2⟩
            have hNA9 := b9 _ _ hNA7 nea
            refine ⟨_, rfl, NA, rfl, ⟨_, SqL.of hNA9⟩, fun D nD => ?_⟩
            refine lc_it walk_list (fun i H1 => Same H9 H1 ∧ H1 D = some (.lst (((rowN ps.length Y3).take i).map V.int))) ⟨same_new nD, upd_same⟩ (fun i H1 _ z => SqL.of (z.1 _ _ hNA9)) ?_ ?_
            · rintro i y H1 H2 hi ⟨s1, hD⟩ ⟨rfl, hy⟩
              have hip : i < ps.length := by rw [List.length_map, nl] at hi; exact hi
              have ek : (namesOf ps)[i]? = some ps[i].1 := by rw [List.getElem?_map, List.getElem?_eq_getElem hip]; rfl
              obtain rfl : V.str ps[i].1 = y := by
                rw [List.getElem?_map, ek] at hy
                exact Option.some.inj hy
              have g := getD (s1 _ _ hN9) fit.good.nd ek (show ((rowN ps.length Y3).map V.int)[i]? = some (.int (Y3 i)) by rw [List.getElem?_map, rowN_at hip]; rfl)
              refine ⟨rfl, _, rfl, NW, rfl, .inl ⟨_, .inl (s1 _ _ hN9)⟩, _, rfl, _, g, ?_⟩
              refine ⟨_, hD, small1000 (by rw [List.length_map, List.length_take]; omega), fun b o z => by rw [upd_ne (ne_of_none z nD)]; exact s1 b o z, ?_⟩
              rw [upd_same, List.take_succ, rowN_at hip, List.map_append]
              rfl
            · rintro H1 ⟨s1, hD⟩
              rw [List.take_of_length_le (by rw [rowN_len, List.length_map, nl]; exact Nat.le_refl _)] at hD
              have sH : Same H H1 := fun b o z => s1 _ _ (b9 _ _ (s7 _ _ z) (ne_of_none z nNW0))
              exact k D _ H1 sH hD (Least.of fit kY st3.ge st3.least)
      · rintro σ H8 ⟨_, _, _, _, _, _, _, Y, L, rfl, b8, hN8, st, far⟩
        exfalso
        omega
end
end K14
namespace K14
open PySem PySem.Spec L2 Rt
open PyProof.Rows hiding St

/-- a row for the first points -/
structure PartK (ps : List Pt) (rs : List Rl) (k : Nat) (xs : List Int) : Prop where
  len : xs.length = k
  on : ∀ p, p < k → (xN xs p - fN ps p) % sN ps p = 0
  ru : ∀ t i j l, RuleAt ps rs t i j l → i < k → j < k → xN xs i + l ≤ xN xs j
theorem PartK.all {ps : List Pt} {rs : List Rl} {xs : List Int} (h : PartK ps rs ps.length xs) : Keeps ps rs (xN xs) :=
  ⟨h.on, fun t i j l r => h.ru t i j l r r.ends.1 r.ends.2.1⟩
def tupI (xs : List Int) : HO := .tup (xs.map V.int)
def spBox (C : Addr) : Sp := fun vs H Q _ => ∃ (wd : Addr) (low : Int) (ps : List Pt) (rs : List Rl), vs = [.ref wd, .int low, .int (low + 14)] ∧ LWd C H wd ps rs ∧ Fits ps rs 420 ∧ ps.length ≤ 3 ∧ -2000000000 ≤ low ∧ low ≤ 2000000000 ∧
  ∀ (B : Addr) (ts : List Addr) (xss : List (List Int)) (H' : Hp), Same H H' → H' B = some (.lst (ts.map V.ref)) → Row tupI H' ts xss → (∀ xs, xs ∈ xss → PartK ps rs ps.length xs) → xss.length ≤ 3375 → Q (.ref B) H'
theorem rg_box {a low s : Int} (s0 : 0 < s) (s1 : s ≤ 60) (a0 : low ≤ a) (a1 : a < low + s) (lo : -2000000000 ≤ low) (hi : low ≤ 2000000000) : ∃ k : Nat, RgC a (low + 14 + 1) s k ∧ k ≤ 15 := by
  have sz : ∃ k : Nat, Builtin.Range.rangeSize a (low + 14 + 1) s = (k : Int) ∧ k ≤ 15 := by
    unfold Builtin.Range.rangeSize
    rw [if_pos (show s > 0 from s0)]
    by_cases lt : a < low + 14 + 1
    · rw [if_pos lt]
      have q0 : 0 ≤ (low + 14 + 1 - a - 1) / s := Int.ediv_nonneg (by omega) (by omega)
      have q1 : (low + 14 + 1 - a - 1) / s ≤ low + 14 + 1 - a - 1 := Int.ediv_le_self s (by omega)
      obtain ⟨k, hk⟩ := Int.eq_ofNat_of_zero_le (show 0 ≤ (low + 14 + 1 - a - 1) / s + 1 by omega)
      exact ⟨k, hk, by omega⟩
    · rw [if_neg lt]
      exact ⟨0, rfl, by omega⟩
  obtain ⟨k, hk, le⟩ := sz
  refine ⟨k, ⟨by omega, by omega, ?_, hk⟩, le⟩
  unfold Builtin.Range.small
  rw [hk]
  simp only [Builtin.Range.rangeFitsLong, Bool.and_eq_true, Bool.or_eq_true, decide_eq_true_eq, beq_iff_eq, s0, if_true]
  omega
theorem cut_take {xs : List V} {n : Nat} : cutV xs none (some (n : Int)) = xs.take n := by
  unfold cutV
  rw [HT.sIx_none, HT.sIx_nat, List.drop_zero, Nat.sub_zero]
  rcases Nat.le_total n xs.length with h | h
  · rw [Nat.min_eq_left h]
  · rw [Nat.min_eq_right h, List.take_length, List.take_of_length_le h]
theorem inV_str {ws : List Str} {x : Str} : inV (.str x) (ws.map V.str) = decide (x ∈ ws) := by
  unfold inV
  induction ws with
  | nil => simp
  | cons y ws ih =>
    rw [List.map_cons, List.any_cons, ih]
    by_cases e : y = x
    · subst e
      simp [eqV]
    · have h1 : eqV (.str y) (.str x) = false := by
        cases h : eqV (V.str y) (V.str x) with
        | false => rfl
        | true => exact absurd (eqV_str.mp h) e
      rw [h1]
      have : ¬ x = y := fun z => e z.symm
      simp [this]
theorem Row.cons1 {α : Type} {f : α → HO} {H : Hp} {a : Addr} {p : α} (h : H a = some (f p)) : Row f H [a] [p] := by
  refine ⟨rfl, fun i b q e1 e2 => ?_⟩
  match i with
  | 0 =>
    cases e1
    cases e2
    exact h
  | i + 1 => cases e1
theorem row_new {α : Type} {f : α → HO} {H : Hp} {as : List Addr} {ps : List α} {a : Addr} (r : Row f H as ps) (n : H a = none) : a ∉ as := fun m => by
  obtain ⟨i, hi, e⟩ := List.getElem_of_mem m
  have q := r.2 i a _ (by rw [List.getElem?_eq_getElem hi, e]) (List.getElem?_eq_getElem (show i < ps.length by rw [← r.1]; exact hi))
  rw [n] at q
  cases q
theorem st_step {f : L2.St → Hp → Prop} {σ σ' : L2.St} {H : Hp} (h : σ = σ') (k : f σ' H) : f σ H := by
  subst h
  exact k
theorem PartK.step {ps : List Pt} {rs : List Rl} {k : Nat} {xs : List Int} {v : Int} (h : PartK ps rs k xs) (on : (v - fN ps k) % sN ps k = 0) (ru : ∀ t i j l, RuleAt ps rs t i j l → i < k + 1 → j < k + 1 → xN (xs ++ [v]) i + l ≤ xN (xs ++ [v]) j) : PartK ps rs (k + 1) (xs ++ [v]) := by
  refine ⟨by rw [List.length_append, h.len]; rfl, fun p hp => ?_, ru⟩
  rcases Nat.lt_or_eq_of_le (Nat.le_of_lt_succ hp) with lt | rfl
  · have hpx : p < xs.length := by rw [h.len]; exact lt
    have e := List.getElem?_eq_getElem hpx
    have e2 : (xs ++ [v])[p]? = some xs[p] := by rw [List.getElem?_append_left (by rw [h.len]; exact lt)]; exact e
    rw [xN_at e2, ← xN_at e]
    exact h.on p lt
  · have e2 : (xs ++ [v])[p]? = some v := by rw [List.getElem?_append_right (by rw [h.len]; exact Nat.le_refl _), h.len, Nat.sub_self]; rfl
    rw [xN_at e2]
    exact on
theorem near_at {ps : List Pt} {k i : Nat} {x : Str} (h : ((namesOf ps).take k)[i]? = some x) : (namesOf ps)[i]? = some x ∧ i < k := by
  have l := (List.getElem?_eq_some_iff.mp h).1
  rw [List.length_take] at l
  rw [List.getElem?_take_of_lt (by omega)] at h
  exact ⟨h, by omega⟩
theorem near_of {ps : List Pt} {k i : Nat} {x : Str} (h : (namesOf ps)[i]? = some x) (l : i < k) : ((namesOf ps).take k)[i]? = some x := by
  rw [List.getElem?_take_of_lt l]
  exact h
theorem strA {xs : List Str} {i : Nat} {a : Str} {x : V} (h : (xs.map V.str)[i]? = some x) (e : xs[i]? = some a) : x = .str a := by
  rw [List.getElem?_map, e] at h
  exact (Option.some.inj h).symm
theorem not_take {xs : List Str} {i : Nat} (nd : xs.Nodup) (h : i < xs.length) : xs[i] ∉ xs.take i := fun m => by
  obtain ⟨j, hj, e⟩ := List.getElem_of_mem m
  rw [List.length_take] at hj
  rw [List.getElem_take] at e
  exact absurd ((List.getElem_inj nd).mp e) (by omega)
theorem on_steps {f s x : Int} {i : Nat} : (upv f s x + (i : Int) * s - f) % s = 0 := by
  have := upv_on f s x
  rw [show upv f s x + (i : Int) * s - f = (upv f s x - f) + (i : Int) * s by omega, Int.add_mul_emod_self_right]
  exact this
theorem small4 {n : Nat} (h : n < 4000) : n < sizeLine := by rw [sizeLine_eq]; omega
section
variable {P : Program} {w : World} {K : PySem.W.Frag} {mg : Str → Option Value} {base : Heap} {f C : Addr} {fd : FuncData}

end
end K14
namespace K14
open PySem PySem.Spec L2 Rt
open PyProof.Rows hiding St

abbrev sFR : Stmt := top 28
/-! ### the turned network -/
def mirP (p : Pt) : Pt := (p.1, -p.2.1, p.2.2)
def mirR (r : Rl) : Rl := (r.2.1, r.1, r.2.2)
def mp (ps : List Pt) : List Pt := ps.map mirP
def mr (rs : List Rl) : List Rl := rs.map mirR
theorem names_mp (ps : List Pt) : namesOf (mp ps) = namesOf ps := by
  show (ps.map mirP).map _ = ps.map _
  rw [List.map_map]
  rfl
theorem mp_len (ps : List Pt) : (mp ps).length = ps.length := List.length_map ..
theorem mr_len (rs : List Rl) : (mr rs).length = rs.length := List.length_map ..
theorem fold_mp : ∀ (ps : List Pt) (l : Nat), (mp ps).foldl (fun l p => Nat.lcm l p.2.2.toNat) l = ps.foldl (fun l p => Nat.lcm l p.2.2.toNat) l
  | [], _ => rfl
  | p :: ps, l => fold_mp ps _
theorem lcm_mp (ps : List Pt) : lcmOf (mp ps) = lcmOf ps := fold_mp ps 1
theorem fN_mp {ps : List Pt} {p : Nat} (h : p < ps.length) : fN (mp ps) p = - fN ps p := by
  have e := List.getElem?_eq_getElem h
  rw [fN_at e, fN_at (show (mp ps)[p]? = some (mirP ps[p]) by unfold mp; rw [List.getElem?_map, e]; rfl)]
  rfl
theorem sN_mp {ps : List Pt} {p : Nat} (h : p < ps.length) : sN (mp ps) p = sN ps p := by
  have e := List.getElem?_eq_getElem h
  rw [sN_at e, sN_at (show (mp ps)[p]? = some (mirP ps[p]) by unfold mp; rw [List.getElem?_map, e]; rfl)]
  rfl
theorem Good.mir {ps : List Pt} {rs : List Rl} (h : Good ps rs) : Good (mp ps) (mr rs) := by
  refine ⟨fun x m => ?_, by rw [names_mp]; exact h.nd, by rw [mp_len]; exact h.few, fun r m => ?_, by rw [mr_len]; exact h.fewR⟩
  · obtain ⟨p, hp, rfl⟩ := List.mem_map.mp m
    exact h.ok p hp
  · obtain ⟨r, hr, rfl⟩ := List.mem_map.mp m
    rw [names_mp]
    exact ⟨(h.ends r hr).2, (h.ends r hr).1⟩
theorem Fits.mir {ps : List Pt} {rs : List Rl} {M : Nat} (h : Fits ps rs M) : Fits (mp ps) (mr rs) M := by
  refine ⟨h.good.mir, fun p m => ?_, h.m0, h.m1⟩
  obtain ⟨q, hq, rfl⟩ := List.mem_map.mp m
  exact h.dv q hq
theorem off_congr {N : Nat} {s s' : Nat → Int} : ∀ n, (∀ p, p < n → s p = s' p) → Rise2.off N s n = Rise2.off N s' n
  | 0, _ => rfl
  | n + 1, h => by
    show Rise2.off N s n + _ = Rise2.off N s' n + _
    rw [off_congr n fun p hp => h p (Nat.lt_succ_of_lt hp), h n (Nat.lt_succ_self n)]
theorem off_mp (ps : List Pt) : offOf (mp ps) = offOf ps := by
  unfold offOf
  rw [lcm_mp, mp_len]
  exact off_congr _ fun p hp => sN_mp hp
theorem rule_mp {ps : List Pt} {rs : List Rl} {k i j : Nat} {l : Int} (h : RuleAt (mp ps) (mr rs) k i j l) : RuleAt ps rs k j i l := by
  obtain ⟨r, h1, h2, h3, rfl⟩ := h
  rw [names_mp] at h2 h3
  unfold mr at h1
  rw [List.getElem?_map] at h1
  cases e : rs[k]? with
  | none => rw [e] at h1; cases h1
  | some r0 =>
    rw [e] at h1
    cases h1
    exact ⟨r0, e, h3, h2, rfl⟩
theorem mp_mp (ps : List Pt) : mp (mp ps) = ps := by
  unfold mp
  rw [List.map_map]
  have : ∀ p, p ∈ ps → (mirP ∘ mirP) p = p := fun p _ => by
    show (p.1, - -p.2.1, p.2.2) = p
    rw [Int.neg_neg]
  exact (List.map_congr_left this).trans (List.map_id ps)
theorem mr_mr (rs : List Rl) : mr (mr rs) = rs := by
  unfold mr
  rw [List.map_map]
  exact (List.map_congr_left fun r _ => rfl).trans (List.map_id rs)
theorem Keeps.mir {ps : List Pt} {rs : List Rl} {X : Nat → Int} (h : Keeps ps rs X) : Keeps (mp ps) (mr rs) (fun p => - X p) := by
  refine ⟨fun p hp => ?_, fun k i j l r => ?_⟩
  · rw [mp_len] at hp
    rw [fN_mp hp, sN_mp hp]
    obtain ⟨q, hq⟩ := Int.dvd_of_emod_eq_zero (h.on p hp)
    rw [show - X p - - fN ps p = -(X p - fN ps p) by omega, hq, ← Int.mul_neg]
    exact Int.mul_emod_right _ _
  · have := h.ru k j i l (rule_mp r)
    show - X i + l ≤ - X j
    omega
theorem Keeps.back {ps : List Pt} {rs : List Rl} {X : Nat → Int} (h : Keeps (mp ps) (mr rs) X) : Keeps ps rs (fun p => - X p) := by
  have := h.mir
  rwa [mp_mp, mr_mr] at this
def ng (xs : List Int) : List Int := xs.map fun x => -x
theorem ng_ng (xs : List Int) : ng (ng xs) = xs := by
  unfold ng
  rw [List.map_map]
  exact (List.map_congr_left fun x _ => Int.neg_neg x).trans (List.map_id xs)
theorem ng_len (xs : List Int) : (ng xs).length = xs.length := List.length_map ..
theorem xN_ng {xs : List Int} {p : Nat} (h : p < xs.length) : xN (ng xs) p = - xN xs p := by
  have e := List.getElem?_eq_getElem h
  rw [xN_at e, xN_at (show (ng xs)[p]? = some (- xs[p]) by unfold ng; rw [List.getElem?_map, e]; rfl)]
/-- the greatest row that keeps clocks and rules up to the ceilings -/
structure Most (ps : List Pt) (rs : List Rl) (cs xs : List Int) : Prop where
  len : xs.length = ps.length
  keeps : Keeps ps rs (xN xs)
  le : ∀ p, p < ps.length → xN xs p ≤ xN cs p
  most : ∀ Z, Keeps ps rs Z → (∀ p, p < ps.length → Z p ≤ xN cs p) → ∀ p, p < ps.length → Z p ≤ xN xs p
theorem Most.of {ps : List Pt} {rs : List Rl} {cs ys : List Int} (lc : cs.length = ps.length) (h : Least (mp ps) (mr rs) (ng cs) ys) : Most ps rs cs (ng ys) := by
  have ly : ys.length = ps.length := by rw [← mp_len]; exact h.len
  refine ⟨by rw [ng_len]; exact ly, h.keeps.back.of fun p hp => xN_ng (by omega), fun p hp => ?_, fun Z kZ hZ p hp => ?_⟩
  · rw [xN_ng (by omega)]
    have := h.ge p (by rw [mp_len]; exact hp)
    rw [xN_ng (by omega)] at this
    omega
  · rw [xN_ng (by omega)]
    have := h.least _ kZ.mir (fun q hq => by
      rw [mp_len] at hq
      rw [xN_ng (by omega)]
      have := hZ q hq
      omega) p (by rw [mp_len]; exact hp)
    have this : xN ys p ≤ - Z p := this
    omega
theorem Most.to {ps : List Pt} {rs : List Rl} {cs xs : List Int} (lc : cs.length = ps.length) (h : Most ps rs cs xs) : Least (mp ps) (mr rs) (ng cs) (ng xs) := by
  have lx := h.len
  refine ⟨by rw [ng_len, mp_len]; exact lx, h.keeps.mir.of fun p hp => xN_ng (by rw [mp_len] at hp; omega), fun p hp => ?_, fun Z kZ hZ p hp => ?_⟩
  · rw [mp_len] at hp
    rw [xN_ng (by omega), xN_ng (by omega)]
    have := h.le p hp
    omega
  · rw [mp_len] at hp
    rw [xN_ng (by omega)]
    have := h.most _ kZ.back (fun q hq => by
      have := hZ q (by rw [mp_len]; exact hq)
      rw [xN_ng (by omega)] at this
      show - Z q ≤ xN cs q
      omega) p hp
    have this : - Z p ≤ xN xs p := this
    omega
theorem Most.uniq {ps : List Pt} {rs : List Rl} {cs xs ys : List Int} (a : Most ps rs cs xs) (b : Most ps rs cs ys) : xs = ys :=
  xN_eq (a.len.trans b.len.symm) fun p hp => by
    have h : p < ps.length := a.len ▸ hp
    have h1 := a.most _ b.keeps b.le p h
    have h2 := b.most _ a.keeps a.le p h
    omega
def spFR (C : Addr) : Sp := fun vs H Q _ => ∃ (n : Addr) (ps : List Pt) (rs : List Rl) (T : Nat → Int) (M : Nat), vs = [.ref n] ∧ NetAt H C n ps rs ∧ Fits ps rs M ∧ Keeps ps rs T ∧ ps.length + (offOf ps + 2) * rs.length ≤ 900000 ∧ ∀ H', Same H H' → Q .non H'
def spMir (C : Addr) : Sp := fun vs H Q _ => ∃ (n : Addr) (ps : List Pt) (rs : List Rl), vs = [.ref n] ∧ NetAt H C n ps rs ∧ Good ps rs ∧ ∀ (x : Addr) (H' : Hp), Same H H' → NetAt H' C x (mp ps) (mr rs) → Q (.ref x) H'
def spLatest (C : Addr) : Sp := fun vs H Q _ => ∃ (n fl : Addr) (ps : List Pt) (rs : List Rl) (cs : List Int) (T : Nat → Int) (M : Nat), vs = [.ref n, .ref fl] ∧ NetAt H C n ps rs ∧ Fits ps rs M ∧ Keeps ps rs T ∧ Row2 H fl (cs.map V.int) ∧ cs.length = ps.length ∧
  ps.length + (offOf ps + 2) * rs.length ≤ 900000 ∧ ∀ (t : Addr) (xs : List Int) (H' : Hp), Same H H' → H' t = some (.tup (xs.map V.int)) → Most ps rs cs xs → Q (.ref t) H'
theorem flat_rep : ∀ n : Nat, (List.replicate n [V.int 0]).flatten = (List.replicate n (0 : Int)).map V.int
  | 0 => rfl
  | n + 1 => by
    rw [List.replicate_succ, List.flatten_cons, flat_rep n, List.replicate_succ]
    rfl
section
variable {P : Program} {w : World} {K : PySem.W.Frag} {mg : Str → Option Value} {base : Heap} {f C CR : Addr} {fd : FuncData}

theorem scFR : FnScope ["network"] ["network"] (defScope sFR) := ⟨rfl, rfl, rfl, by decide +kernel, rfl, by decide +kernel, by decide +kernel⟩
theorem ok_findring (F : Fun K "find_ring" "find_ring" sFR f fd) (T : Wds mg) (cn : ClsN K C) (M : Meths P w K mg base C) (cr : ClsR K CR) (mkR : Mkr P w K mg base 5 CR "Rising" (spRInit C CR)) (mFin : Md P w K mg base 3 CR "finish" (spFin CR)) : FnOk P w K mg base CX0 7 f fd ["network"] (spFR C) := by
  refine F.ok scFR (fun vs H Q E h => ?_) (fun cdv A outer s H vs Q E hr h => ?_)
  · obtain ⟨n, ps, rs, TT, M, rfl, _⟩ := h
    rfl
  · obtain ⟨n, ps, rs, TT, MM, rfl, net, fit, kT, few, k⟩ := h
    refine ⟨_, (pss_one (ps_ret (pe_m0' cr.cls mFin hr (by decide) (pe_mkr mkR hr (by decide) (by rfl) (pa_cons (pv 0) (pa_cons (pe_op op_rep (pe_lst (pa_cons pe_int pa_nil)) (pe_callB call_len_seq (by rfl) T.zlen (by decide +kernel) (pa_cons (pe_m0' cn.cls M.names hr (by decide) (pv 0)) pa_nil))) pa_nil)))))), ?_⟩
    obtain ⟨dn, fsn, hN, look⟩ := net_look net
    have few1 := fit.good.few
    refine ⟨_, rfl, (by show 1 ≤ sizeLine; decide), fun l0 nl0 => ?_⟩
    have s0 := same_new (o := .lst [.int 0]) nl0
    have hl0 := upd_same (H := H) (a := l0) (o := .lst [.int 0])
    revert s0 hl0
    generalize upd H l0 (.lst [.int 0]) = H1
    intro s0 hl0
    refine ⟨_, rfl, n, dn, fsn, rfl, s0 _ _ hN, look _ (by decide +kernel) (by decide +kernel) (by decide +kernel), n, ps, rs, rfl, net.same s0, few1, fun NL H2 nNL s2 hNL => ?_⟩
    have nl : ((namesOf ps).map V.str).length = ps.length := by rw [List.length_map]; exact List.length_map ..
    refine ⟨NL, _, rfl, .inl (SqL.of hNL), l0, _, _, rfl, rfl, s2 _ _ hl0, by omega, by omega, ?_, fun fl nfl => ?_⟩
    · rw [nl, Int.toNat_natCast, sizeLine_eq]
      show 1 * ps.length ≤ _
      omega
    rw [nl, Int.toNat_natCast, flat_rep]
    have sf := same_new (o := .lst ((List.replicate ps.length (0 : Int)).map V.int)) nfl
    have hfl := upd_same (H := H2) (a := fl) (o := .lst ((List.replicate ps.length (0 : Int)).map V.int))
    have sH := (s0.trans s2).trans sf
    revert hfl sH
    generalize upd H2 fl (.lst ((List.replicate ps.length (0 : Int)).map V.int)) = H3
    intro hfl sH
    refine fun a dx na nd da => ?_
    have nd' : (upd H3 dx (.own a)) a = none := by rw [upd_ne da.symm]; exact na
    have s1 := (same_new (o := .own a) nd).trans (same_new (o := .ins CR dx []) nd')
    have ha : (upd (upd H3 dx (.own a)) a (.ins CR dx [])) a = some (.ins CR dx []) := upd_same
    revert s1 ha
    generalize upd (upd H3 dx (.own a)) a (.ins CR dx []) = H4
    intro s1 ha
    have s14 := sH.trans s1
    have aH : ∀ b o, H3 b = some o → b ≠ a := fun b o e => ne_of_none e na
    refine ⟨a, dx, n, fl, ps, rs, List.replicate ps.length 0, MM, rfl, ha, net.same s14, fit.good, fit.dv, fit.m0, fit.m1, .inl (s1 _ _ hfl), List.length_replicate, fun H5 NA CA RA SA LA b2 nSA nLA ris => ?_⟩
    have s5 : Same H H5 := fun b o e => b2 b o (s14 b o e) (aH b o (sH b o e))
    have nSA0 : H SA = none := none_same s14 nSA
    have nLA0 : H LA = none := none_same s14 nLA
    refine ⟨rfl, ?_⟩
    obtain ⟨dx2, g2⟩ := ris.at_
    have nums : Nums ps.length ((List.range ps.length).map some) ((List.range ps.length).map (startR ps (List.replicate ps.length 0))) (fun p => upv (fN ps p) (sN ps p) (xN (List.replicate ps.length 0) p)) (fun _ => 0) := fun p hp => ⟨p, startR ps (List.replicate ps.length 0) p, by rw [List.getElem?_map, List.getElem?_range hp]; rfl, by rw [List.getElem?_map, List.getElem?_range hp]; rfl, rfl, rfl⟩
    refine ⟨a, dx2, _, rfl, g2, lk_no (by decide +kernel) (by decide +kernel) (by decide +kernel) (by decide +kernel) (by decide +kernel) (by decide +kernel), a, NA, CA, RA, SA, LA, ps, rs, _, _, _, TT, MM, rfl, ris, fit, kT, nums, fun p _ => upv_on _ _ _, ?_, fun H6 rl la Y L sb3 ris3 nums3 kY geY leY => ?_⟩
    · rw [List.length_map, List.length_range]
      exact few
    exact k H6 fun b o e => sb3 b o (s5 b o e) (ne_of_none e nSA0) (ne_of_none e nLA0)

end
end K14
/-! ### rising with causes, from some points or all, with a timetable or without -/
namespace Rise3
open Rise Rise2
/-- a raise: point, number, rule, cause, height -/
abbrev RT := Nat × Int × Option Nat × Option Nat × Nat
section
variable {n N : Nat} {f s : Nat → Int} {RA : Nat → Nat → Nat → Int → Prop}
/-- each raise is a start, or has its cause; at one point the numbers grow -/
structure Raised (n : Nat) (f s : Nat → Int) (RA : Nat → Nat → Nat → Int → Prop) (rl : List RT) : Prop where
  pt : ∀ (i : Nat) (r : RT), rl[i]? = some r → r.1 < n ∧ (r.2.1 - f r.1) % s r.1 = 0
  cs : ∀ (i : Nat) (r : RT), rl[i]? = some r → (r.2.2.1 = none ∧ r.2.2.2.1 = none ∧ r.2.2.2.2 = 0) ∨
    ∃ (k c : Nat) (q : RT) (l : Int), r.2.2.1 = some k ∧ r.2.2.2.1 = some c ∧ c < i ∧ rl[c]? = some q ∧ RA k q.1 r.1 l ∧ r.2.1 = upc (f r.1) (s r.1) (q.2.1 + l) ∧ r.2.2.2.2 = q.2.2.2.2 + 1
  inc : ∀ (i j : Nat) (r q : RT), i < j → rl[i]? = some r → rl[j]? = some q → r.1 = q.1 → r.2.1 < q.2.1
theorem get_snoc {rl : List RT} {x r : RT} {i : Nat} (h : (rl ++ [x])[i]? = some r) : rl[i]? = some r ∨ (i = rl.length ∧ r = x) := by
  rcases Nat.lt_or_ge i rl.length with lt | ge
  · rw [List.getElem?_append_left lt] at h
    exact .inl h
  · have e := (List.getElem?_eq_some_iff.mp h).1
    rw [List.length_append] at e
    have e2 : i = rl.length := by simp at e; omega
    subst e2
    rw [List.getElem?_append_right (Nat.le_refl _), Nat.sub_self] at h
    exact .inr ⟨rfl, (Option.some.inj h).symm⟩
theorem old_snoc {rl : List RT} {x r : RT} {i : Nat} (h : rl[i]? = some r) : (rl ++ [x])[i]? = some r := by
  rw [List.getElem?_append_left (List.getElem?_eq_some_iff.mp h).1]
  exact h
theorem Raised.snoc {rl : List RT} {x : RT} (h : Raised n f s RA rl) (p : x.1 < n) (on : (x.2.1 - f x.1) % s x.1 = 0)
    (c : (x.2.2.1 = none ∧ x.2.2.2.1 = none ∧ x.2.2.2.2 = 0) ∨ ∃ (k c : Nat) (q : RT) (l : Int), x.2.2.1 = some k ∧ x.2.2.2.1 = some c ∧ rl[c]? = some q ∧ RA k q.1 x.1 l ∧ x.2.1 = upc (f x.1) (s x.1) (q.2.1 + l) ∧ x.2.2.2.2 = q.2.2.2.2 + 1)
    (up : ∀ (i : Nat) (r : RT), rl[i]? = some r → r.1 = x.1 → r.2.1 < x.2.1) : Raised n f s RA (rl ++ [x]) := by
  refine ⟨fun i r e => ?_, fun i r e => ?_, fun i j r q lt e1 e2 ep => ?_⟩
  · rcases get_snoc e with e | ⟨_, rfl⟩
    · exact h.pt i r e
    · exact ⟨p, on⟩
  · rcases get_snoc e with e | ⟨rfl, rfl⟩
    · rcases h.cs i r e with z | ⟨k, c, q, l, a1, a2, a3, a4, a5⟩
      · exact .inl z
      · exact .inr ⟨k, c, q, l, a1, a2, a3, old_snoc a4, a5⟩
    · rcases c with z | ⟨k, c, q, l, a1, a2, a4, a5⟩
      · exact .inl z
      · exact .inr ⟨k, c, q, l, a1, a2, (List.getElem?_eq_some_iff.mp a4).1, old_snoc a4, a5⟩
  · have e2b := (List.getElem?_eq_some_iff.mp e2).1
    rw [List.length_append] at e2b
    rcases get_snoc e1 with d1 | ⟨rfl, rfl⟩
    · rcases get_snoc e2 with d2 | ⟨rfl, rfl⟩
      · exact h.inc i j r q lt d1 d2 ep
      · exact up i r d1 ep
    · simp at e2b
      omega
/-- back along the causes -/
def bk (rl : List RT) : Nat → Nat → Option Nat
  | i, 0 => some i
  | i, t + 1 => match rl[i]? with
    | some r => match r.2.2.2.1 with
      | some c => bk rl c t
      | none => none
    | none => none
theorem bk_at {rl : List RT} (h : Raised n f s RA rl) : ∀ (t i : Nat) (r : RT), rl[i]? = some r → t ≤ r.2.2.2.2 → ∃ (c : Nat) (q : RT), bk rl i t = some c ∧ rl[c]? = some q ∧ q.2.2.2.2 + t = r.2.2.2.2 ∧ c + t ≤ i
  | 0, i, r, e, _ => ⟨i, r, rfl, e, rfl, Nat.le_refl _⟩
  | t + 1, i, r, e, le => by
    rcases h.cs i r e with ⟨_, _, z⟩ | ⟨k, c, q, l, _, a2, a3, a4, _, _, a7⟩
    · omega
    · obtain ⟨c2, q2, b1, b2, b3, b4⟩ := bk_at h t c q a4 (by omega)
      refine ⟨c2, q2, ?_, b2, by omega, by omega⟩
      show (match rl[i]? with
        | some r => match r.2.2.2.1 with
          | some c => bk rl c t
          | none => none
        | none => none) = _
      rw [e]
      show (match r.2.2.2.1 with
          | some c => bk rl c t
          | none => none) = _
      rw [a2]
      exact b1
theorem bk_succ {rl : List RT} : ∀ (t i c c2 : Nat) (q : RT), bk rl i t = some c → rl[c]? = some q → q.2.2.2.1 = some c2 → bk rl i (t + 1) = some c2
  | 0, i, c, c2, q, e, g, a => by
    have e : some i = some c := e
    cases e
    show (match rl[i]? with
        | some r => match r.2.2.2.1 with
          | some c => bk rl c 0
          | none => none
        | none => none) = _
    rw [g]
    show (match q.2.2.2.1 with
          | some c => bk rl c 0
          | none => none) = _
    rw [a]
    rfl
  | t + 1, i, c, c2, q, e, g, a => by
    cases ei : rl[i]? with
    | none =>
      have e : (match rl[i]? with
        | some r => match r.2.2.2.1 with
          | some c => bk rl c t
          | none => none
        | none => none) = some c := e
      rw [ei] at e
      cases e
    | some r =>
      have e : (match rl[i]? with
        | some r => match r.2.2.2.1 with
          | some c => bk rl c t
          | none => none
        | none => none) = some c := e
      rw [ei] at e
      have e : (match r.2.2.2.1 with
          | some c => bk rl c t
          | none => none) = some c := e
      cases ec : r.2.2.2.1 with
      | none => rw [ec] at e; cases e
      | some c1 =>
        rw [ec] at e
        have e : bk rl c1 t = some c := e
        show (match rl[i]? with
        | some r => match r.2.2.2.1 with
          | some c => bk rl c (t + 1)
          | none => none
        | none => none) = _
        rw [ei]
        show (match r.2.2.2.1 with
          | some c => bk rl c (t + 1)
          | none => none) = _
        rw [ec]
        exact bk_succ t c1 c c2 q e g a
/-- the pair of a raise: its point and its rest -/
def cd (N : Nat) (f s : Nat → Int) (r : RT) : Nat := code N f s (r.1, r.2.1)
/-- among the raises back along the causes as many as there are pairs, and one more, one comes again -/
theorem few_apart {rl : List RT} (h0 : 0 < N) (oks : ∀ p, p < n → 0 < s p ∧ s p ∣ (N : Int)) (h : Raised n f s RA rl) {i : Nat} {m : Nat} {qs : Nat → RT}
    (at_ : ∀ t, t < m → ∃ c : Nat, rl[c]? = some (qs t)) (ap : ∀ t u, t < u → u < m → cd N f s (qs t) ≠ cd N f s (qs u)) : m ≤ off N s n := by
  have nd : ((List.range m).map fun t => cd N f s (qs t)).Nodup := by
    unfold List.Nodup
    rw [List.pairwise_map]
    exact List.Pairwise.imp_of_mem (fun {a b} ma mb lt => ap a b lt (List.mem_range.mp mb)) List.pairwise_lt_range
  have q := nodup_len (off N s n) _ nd fun x hx => by
    obtain ⟨t, ht, rfl⟩ := List.mem_map.mp hx
    obtain ⟨c, hc⟩ := at_ t (List.mem_range.mp ht)
    have p := (h.pt c _ hc).1
    have lt : code N f s ((qs t).1, (qs t).2.1) < off N s ((qs t).1 + 1) := code_lt (f := f) (a := ((qs t).1, (qs t).2.1)) h0 (oks _ p).1 (oks _ p).2
    have := off_mono (N := N) (s := s) (show (qs t).1 + 1 ≤ n by omega)
    show code N f s _ < _
    omega
  rw [List.length_map, List.length_range] at q
  exact q
/-- a row with holes that keeps clocks and rules -/
structure Closed (f s : Nat → Int) (RA : Nat → Nat → Nat → Int → Prop) (Z : Nat → Option Int) : Prop where
  on : ∀ p x, Z p = some x → (x - f p) % s p = 0
  ru : ∀ k i j l x, RA k i j l → Z i = some x → ∃ y, Z j = some y ∧ x + l ≤ y
/-- no number is above what a closed row above the starts has -/
theorem below {rl : List RT} {Z : Nat → Option Int} (oks : ∀ p, p < n → 0 < s p ∧ s p ∣ (N : Int)) (h : Raised n f s RA rl) (cz : Closed f s RA Z) (st : ∀ (i : Nat) (r : RT), rl[i]? = some r → r.2.2.2.2 = 0 → ∃ z, Z r.1 = some z ∧ r.2.1 ≤ z) :
    ∀ (i : Nat) (r : RT), rl[i]? = some r → ∃ z, Z r.1 = some z ∧ r.2.1 ≤ z := by
  intro i
  induction i using Nat.strongRecOn with
  | ind i ih =>
    intro r e
    rcases h.cs i r e with ⟨_, _, z⟩ | ⟨k, c, q, l, _, _, a3, a4, a5, a6, _⟩
    · exact st i r e z
    · obtain ⟨z, hz, le⟩ := ih c a3 q a4
      obtain ⟨y, hy, le2⟩ := cz.ru k q.1 r.1 l z a5 hz
      refine ⟨y, hy, ?_⟩
      rw [a6]
      exact upc_least (oks _ (h.pt i r e).1).1 (by omega) (cz.on _ _ hy)
/-- what a raise behind another one tells of a closed row, so many periods on -/
theorem led {rl : List RT} {Z : Nat → Option Int} (oks : ∀ p, p < n → 0 < s p ∧ s p ∣ (N : Int)) (h : Raised n f s RA rl) (cz : Closed f s RA Z) :
    ∀ (t i c : Nat) (r q : RT), rl[i]? = some r → bk rl i t = some c → rl[c]? = some q → ∀ (K z : Int), Z q.1 = some z → q.2.1 + K * N ≤ z → ∃ y, Z r.1 = some y ∧ r.2.1 + K * N ≤ y
  | 0, i, c, r, q, e, b, g, K, z, hz, le => by
    have b : some i = some c := b
    cases b
    rw [e] at g
    cases g
    exact ⟨z, hz, le⟩
  | t + 1, i, c, r, q, e, b, g, K, z, hz, le => by
    have b : (match rl[i]? with
        | some r => match r.2.2.2.1 with
          | some c => bk rl c t
          | none => none
        | none => none) = some c := b
    rw [e] at b
    have b : (match r.2.2.2.1 with
          | some c => bk rl c t
          | none => none) = some c := b
    rcases h.cs i r e with ⟨_, z2, _⟩ | ⟨k, c1, q1, l, _, a2, a3, a4, a5, a6, _⟩
    · rw [z2] at b
      cases b
    · rw [a2] at b
      have b : bk rl c1 t = some c := b
      obtain ⟨y, hy, le1⟩ := led oks h cz t c1 c q1 q a4 b g K z hz le
      obtain ⟨y2, hy2, le2⟩ := cz.ru k q1.1 r.1 l y a5 hy
      refine ⟨y2, hy2, ?_⟩
      have o := oks _ (h.pt i r e).1
      have on2 := on_add (K := K) o.2 (cz.on _ _ hy2)
      have := upc_least (x := q1.2.1 + l) (z := y2 - K * N) o.1 (by omega) on2
      rw [a6]
      omega
/-- where a pair comes again no closed row is above the starts -/
theorem ring_none {rl : List RT} {Z : Nat → Option Int} (h0 : 0 < N) (oks : ∀ p, p < n → 0 < s p ∧ s p ∣ (N : Int)) (h : Raised n f s RA rl) (cz : Closed f s RA Z) (st : ∀ (i : Nat) (r : RT), rl[i]? = some r → r.2.2.2.2 = 0 → ∃ z, Z r.1 = some z ∧ r.2.1 ≤ z)
    {i c t : Nat} {r q : RT} (e : rl[i]? = some r) (b : bk rl i t = some c) (g : rl[c]? = some q) (lt : c < i) (same : cd N f s q = cd N f s r) : False := by
  obtain ⟨z, hz, le⟩ := below oks h cz st c q g
  have pq := h.pt c q g
  have pr := h.pt i r e
  obtain ⟨ep, em⟩ := code_inj h0 (oks _ pq.1).1 (oks _ pq.1).2 (oks _ pr.1).1 (oks _ pr.1).2 pq.2 pr.2 same
  have ep : q.1 = r.1 := ep
  have gt := h.inc c i q r lt g e ep
  have d : (N : Int) ∣ r.2.1 - q.2.1 := Int.dvd_of_emod_eq_zero (Int.emod_eq_emod_iff_emod_sub_eq_zero.mp em.symm)
  have leN : (N : Int) ≤ r.2.1 - q.2.1 := Int.le_of_dvd (by omega) d
  have z1 := Int.emod_add_mul_ediv (z - q.2.1) (N : Int)
  have z2 := Int.emod_nonneg (z - q.2.1) (show (N : Int) ≠ 0 by omega)
  have z3 := Int.emod_lt_of_pos (z - q.2.1) (show (0 : Int) < N by omega)
  rw [Int.mul_comm] at z1
  obtain ⟨y, hy, le2⟩ := led oks h cz t i c r q e b g ((z - q.2.1) / (N : Int)) z hz (by omega)
  rw [← ep, hz] at hy
  cases hy
  omega
end
end Rise3
/-! ### laps of a rising with causes -/
namespace Rise3
open Rise Rise2
section
variable {n N : Nat} {f s : Nat → Int} {RA : Nat → Nat → Nat → Int → Prop} {X : Nat → Option Int}
theorem bk_add {rl : List RT} : ∀ (t u i c d : Nat), bk rl i t = some c → bk rl c u = some d → bk rl i (t + u) = some d
  | 0, u, i, c, d, e, g => by
    have e : some i = some c := e
    cases e
    rw [Nat.zero_add]
    exact g
  | t + 1, u, i, c, d, e, g => by
    have e : (match rl[i]? with
        | some r => match r.2.2.2.1 with
          | some c => bk rl c t
          | none => none
        | none => none) = some c := e
    rw [show t + 1 + u = (t + u) + 1 by omega]
    show (match rl[i]? with
        | some r => match r.2.2.2.1 with
          | some c => bk rl c (t + u)
          | none => none
        | none => none) = _
    cases ei : rl[i]? with
    | none => rw [ei] at e; cases e
    | some r =>
      rw [ei] at e
      have e : (match r.2.2.2.1 with
          | some c => bk rl c t
          | none => none) = some c := e
      show (match r.2.2.2.1 with
          | some c => bk rl c (t + u)
          | none => none) = _
      cases ec : r.2.2.2.1 with
      | none => rw [ec] at e; cases e
      | some c1 =>
        rw [ec] at e
        exact bk_add t u c1 c d e g
/-- the last raises of the points, and what stands in a lap -/
structure St3 (n : Nat) (f s : Nat → Int) (RA : Nat → Nat → Nat → Int → Prop) (X : Nat → Option Int) (rl : List RT) (la : List (Option Nat)) (m t : Nat) : Prop where
  ra : Raised n f s RA rl
  ln : la.length = n
  lst : ∀ (p i : Nat), la[p]? = some (some i) → ∃ r : RT, rl[i]? = some r ∧ r.1 = p ∧ ∀ (j : Nat) (q : RT), rl[j]? = some q → q.1 = p → j ≤ i
  no : ∀ p : Nat, la[p]? = some none → ∀ (j : Nat) (q : RT), rl[j]? = some q → q.1 ≠ p
  st : ∀ (j : Nat) (q : RT), rl[j]? = some q → q.2.2.2.2 = 0 → X q.1 = some q.2.1
  ge : ∀ (p : Nat) (x : Int), p < n → X p = some x → ∃ (i : Nat) (r : RT), la[p]? = some (some i) ∧ rl[i]? = some r ∧ x ≤ r.2.1
  lap : ∀ (k i j : Nat) (l : Int), RA k i j l → ∀ (a : Nat) (r : RT), la[i]? = some (some a) → rl[a]? = some r → (∃ (b : Nat) (q : RT), la[j]? = some (some b) ∧ rl[b]? = some q ∧ r.2.1 + l ≤ q.2.1) ∨ (if k < t then m + 1 else m) ≤ r.2.2.2.2
theorem St3.next {rl : List RT} {la : List (Option Nat)} {m t : Nat} (h : St3 n f s RA X rl la m t) (all : ∀ k i j l, RA k i j l → k < t) : St3 n f s RA X rl la (m + 1) 0 := by
  refine ⟨h.ra, h.ln, h.lst, h.no, h.st, h.ge, fun k i j l r a q e1 e2 => ?_⟩
  have := h.lap k i j l r a q e1 e2
  rw [if_pos (all k i j l r)] at this
  simpa using this
theorem St3.still {rl : List RT} {la : List (Option Nat)} {m t i j : Nat} {l : Int} (h : St3 n f s RA X rl la m t) (uniq : ∀ i' j' l', RA t i' j' l' → i' = i ∧ j' = j ∧ l' = l)
    (ok : ∀ (a : Nat) (r : RT), la[i]? = some (some a) → rl[a]? = some r → ∃ (b : Nat) (q : RT), la[j]? = some (some b) ∧ rl[b]? = some q ∧ r.2.1 + l ≤ q.2.1) : St3 n f s RA X rl la m (t + 1) := by
  refine ⟨h.ra, h.ln, h.lst, h.no, h.st, h.ge, fun k i' j' l' r a q e1 e2 => ?_⟩
  by_cases e : k = t
  · subst e
    obtain ⟨rfl, rfl, rfl⟩ := uniq _ _ _ r
    exact .inl (ok a q e1 e2)
  · rcases h.lap k i' j' l' r a q e1 e2 with z | z
    · exact .inl z
    · refine .inr ?_
      by_cases lt : k < t
      · rw [if_pos lt] at z
        rw [if_pos (by omega)]
        exact z
      · rw [if_neg lt] at z
        rw [if_neg (by omega)]
        exact z
theorem St3.raise {rl : List RT} {la : List (Option Nat)} {m t i j a : Nat} {l : Int} {r : RT} (oks : ∀ p, p < n → 0 < s p ∧ s p ∣ (N : Int)) (h : St3 n f s RA X rl la m t) (ru : RA t i j l) (uniq : ∀ i' j' l', RA t i' j' l' → i' = i ∧ j' = j ∧ l' = l) (hj : j < n)
    (ei : la[i]? = some (some a)) (er : rl[a]? = some r) (gt : ∀ (b : Nat) (q : RT), la[j]? = some (some b) → rl[b]? = some q → q.2.1 < upc (f j) (s j) (r.2.1 + l)) :
    St3 n f s RA X (rl ++ [(j, upc (f j) (s j) (r.2.1 + l), some t, some a, r.2.2.2.2 + 1)]) (la.set j (some rl.length)) m (t + 1) ∧ m ≤ r.2.2.2.2 := by
  have sj := (oks j hj).1
  have pa : r.1 = i := by
    obtain ⟨r2, e2, p2, _⟩ := h.lst i a ei
    rw [er] at e2
    cases e2
    exact p2
  have far : m ≤ r.2.2.2.2 := by
    rcases h.lap t i j l ru a r ei er with ⟨b, q, e1, e2, le⟩ | z
    · have g := gt b q e1 e2
      obtain ⟨q2, f2, p2, _⟩ := h.lst j b e1
      rw [e2] at f2
      cases f2
      have on := (h.ra.pt b q e2).2
      rw [p2] at on
      exact absurd (upc_least sj le on) (by omega)
    · rw [if_neg (by omega)] at z
      exact z
  have jl : j < la.length := by rw [h.ln]; exact hj
  have setj : (la.set j (some rl.length))[j]? = some (some rl.length) := List.getElem?_set_self jl
  have setn : ∀ p, p ≠ j → (la.set j (some rl.length))[p]? = la[p]? := fun p ne => List.getElem?_set_ne (fun e => ne e.symm)
  have new : (rl ++ [((j, upc (f j) (s j) (r.2.1 + l), some t, some a, r.2.2.2.2 + 1) : RT)])[rl.length]? = some (j, upc (f j) (s j) (r.2.1 + l), some t, some a, r.2.2.2.2 + 1) := by
    rw [List.getElem?_append_right (Nat.le_refl _), Nat.sub_self]
    rfl
  refine ⟨⟨?_, by rw [List.length_set]; exact h.ln, fun p i' e => ?_, fun p e j' q e2 => ?_, fun j' q e z => ?_, fun p x hp ex => ?_, fun k i' j' l' r' a' q' e1 e2 => ?_⟩, far⟩
  · refine h.ra.snoc hj (upc_on _ _ _) (.inr ⟨t, a, r, l, rfl, rfl, er, pa ▸ ru, rfl, rfl⟩) fun i' q e ep => ?_
    have ep : q.1 = j := ep
    show q.2.1 < upc (f j) (s j) (r.2.1 + l)
    cases ej : la[j]? with
    | none => exact absurd (List.getElem?_eq_none_iff.mp ej) (by omega)
    | some o =>
      cases o with
      | none => exact absurd ep (h.no j ej i' q e)
      | some b =>
        obtain ⟨qb, eb, pb, last⟩ := h.lst j b ej
        have g := gt b qb ej eb
        have le := last i' q e ep
        rcases Nat.lt_or_eq_of_le le with lt | rfl
        · have := h.ra.inc i' b q qb lt e eb (ep.trans pb.symm)
          omega
        · rw [e] at eb
          cases eb
          exact g
  · by_cases ep : p = j
    · subst ep
      rw [setj] at e
      cases e
      refine ⟨_, new, rfl, fun j' q e2 _ => ?_⟩
      have := (List.getElem?_eq_some_iff.mp e2).1
      rw [List.length_append] at this
      simp at this
      omega
    · rw [setn p ep] at e
      obtain ⟨q, e1, e2, e3⟩ := h.lst p i' e
      refine ⟨q, old_snoc e1, e2, fun j' q' e4 e5 => ?_⟩
      rcases get_snoc e4 with e4 | ⟨_, rfl⟩
      · exact e3 j' q' e4 e5
      · exact absurd e5.symm ep
  · by_cases ep : p = j
    · subst ep
      rw [setj] at e
      cases e
    · rw [setn p ep] at e
      rcases get_snoc e2 with e2 | ⟨_, rfl⟩
      · exact h.no p e j' q e2
      · exact fun z => ep z.symm
  · rcases get_snoc e with e | ⟨_, rfl⟩
    · exact h.st j' q e z
    · have z : r.2.2.2.2 + 1 = 0 := z
      omega
  · obtain ⟨i', q, e1, e2, le⟩ := h.ge p x hp ex
    by_cases ep : p = j
    · subst ep
      have := gt i' q e1 e2
      exact ⟨rl.length, _, setj, new, by show x ≤ upc (f p) (s p) (r.2.1 + l); omega⟩
    · exact ⟨i', q, by rw [setn p ep]; exact e1, old_snoc e2, le⟩
  · by_cases ei' : i' = j
    · subst ei'
      rw [setj] at e1
      cases e1
      rw [new] at e2
      cases e2
      right
      show (if k < t + 1 then m + 1 else m) ≤ r.2.2.2.2 + 1
      split <;> omega
    · rw [setn i' ei'] at e1
      have e3 : rl[a']? = some q' := by
        obtain ⟨q, g1, _, _⟩ := h.lst i' a' e1
        rw [old_snoc g1] at e2
        cases e2
        exact g1
      by_cases et : k = t
      · subst et
        obtain ⟨rfl, rfl, rfl⟩ := uniq _ _ _ r'
        rw [ei] at e1
        cases e1
        rw [er] at e3
        cases e3
        exact .inl ⟨rl.length, _, setj, new, upc_ge sj⟩
      · rcases h.lap k i' j' l' r' a' q' e1 e3 with ⟨b, q, f1, f2, le⟩ | z
        · left
          by_cases ej' : j' = j
          · subst ej'
            have := gt b q f1 f2
            exact ⟨rl.length, _, setj, new, by show q'.2.1 + l' ≤ upc (f j') (s j') (r.2.1 + l); omega⟩
          · exact ⟨b, q, by rw [setn j' ej']; exact f1, old_snoc f2, le⟩
        · right
          by_cases lt : k < t
          · rw [if_pos lt] at z
            rw [if_pos (by omega)]
            exact z
          · rw [if_neg lt] at z
            rw [if_neg (by omega)]
            exact z
/-- the numbers that are there -/
def numO (rl : List RT) (la : List (Option Nat)) (p : Nat) : Option Int := match la[p]? with
  | some (some i) => (rl[i]?).map fun r => r.2.1
  | _ => none
theorem numO_at {rl : List RT} {la : List (Option Nat)} {p i : Nat} {r : RT} (e1 : la[p]? = some (some i)) (e2 : rl[i]? = some r) : numO rl la p = some r.2.1 := by
  unfold numO
  rw [e1]
  show (rl[i]?).map _ = _
  rw [e2]
  rfl
theorem numO_of {rl : List RT} {la : List (Option Nat)} {p : Nat} {x : Int} (h : numO rl la p = some x) : ∃ (i : Nat) (r : RT), la[p]? = some (some i) ∧ rl[i]? = some r ∧ r.2.1 = x := by
  unfold numO at h
  split at h
  · rename_i i e
    cases e2 : rl[i]? with
    | none => rw [e2] at h; cases h
    | some r =>
      rw [e2] at h
      exact ⟨i, r, e, e2, Option.some.inj h⟩
  · cases h
theorem numO_no {rl : List RT} {la : List (Option Nat)} {p : Nat} (h : la[p]? = some none) : numO rl la p = none := by
  unfold numO
  rw [h]
/-- what floors with holes force: the least row with holes that keeps clocks and rules from them on -/
structure Forced (n : Nat) (f s : Nat → Int) (RA : Nat → Nat → Nat → Int → Prop) (X Y : Nat → Option Int) : Prop where
  cl : Closed f s RA Y
  ge : ∀ p x, p < n → X p = some x → ∃ y, Y p = some y ∧ x ≤ y
  least : ∀ Z, Closed f s RA Z → (∀ p x, p < n → X p = some x → ∃ z, Z p = some z ∧ x ≤ z) → ∀ p y, Y p = some y → ∃ z, Z p = some z ∧ y ≤ z
theorem St3.forced {rl : List RT} {la : List (Option Nat)} {m t : Nat} (oks : ∀ p, p < n → 0 < s p ∧ s p ∣ (N : Int)) (h : St3 n f s RA X rl la m t)
    (ok : ∀ (k i j : Nat) (l : Int), RA k i j l → ∀ (a : Nat) (r : RT), la[i]? = some (some a) → rl[a]? = some r → ∃ (b : Nat) (q : RT), la[j]? = some (some b) ∧ rl[b]? = some q ∧ r.2.1 + l ≤ q.2.1) : Forced n f s RA X (numO rl la) := by
  refine ⟨⟨fun p x e => ?_, fun k i j l x r e => ?_⟩, fun p x hp e => ?_, fun Z cz hz p y e => ?_⟩
  · obtain ⟨i, r, e1, e2, rfl⟩ := numO_of e
    obtain ⟨q, g1, g2, _⟩ := h.lst p i e1
    rw [e2] at g1
    cases g1
    have := (h.ra.pt i r e2).2
    rwa [g2] at this
  · obtain ⟨a, q, e1, e2, rfl⟩ := numO_of e
    obtain ⟨b, q2, f1, f2, le⟩ := ok k i j l r a q e1 e2
    exact ⟨q2.2.1, numO_at f1 f2, le⟩
  · obtain ⟨i, r, e1, e2, le⟩ := h.ge p x hp e
    exact ⟨r.2.1, numO_at e1 e2, le⟩
  · obtain ⟨i, r, e1, e2, rfl⟩ := numO_of e
    obtain ⟨q, g1, g2, _⟩ := h.lst p i e1
    rw [e2] at g1
    cases g1
    have := below oks h.ra cz (fun i' r' e' z' => hz r'.1 r'.2.1 (h.ra.pt i' r' e').1 (h.st i' r' e' z')) i r e2
    rwa [g2] at this
/-- a raise as high as there are pairs: no closed row is above the starts -/
theorem St3.none {rl : List RT} {la : List (Option Nat)} {m t i : Nat} {r : RT} {Z : Nat → Option Int} (h0 : 0 < N) (oks : ∀ p, p < n → 0 < s p ∧ s p ∣ (N : Int)) (h : St3 n f s RA X rl la m t) (e : rl[i]? = some r) (hi : off N s n ≤ r.2.2.2.2)
    (cz : Closed f s RA Z) (hz : ∀ p x, p < n → X p = some x → ∃ z, Z p = some z ∧ x ≤ z) : False := by
  have st : ∀ (i : Nat) (r : RT), rl[i]? = some r → r.2.2.2.2 = 0 → ∃ z, Z r.1 = some z ∧ r.2.1 ≤ z := fun i' r' e' z' => hz r'.1 r'.2.1 (h.ra.pt i' r' e').1 (h.st i' r' e' z')
  have back : ∀ t, t ≤ r.2.2.2.2 → ∃ (c : Nat) (q : RT), bk rl i t = some c ∧ rl[c]? = some q ∧ q.2.2.2.2 + t = r.2.2.2.2 ∧ c + t ≤ i := fun t ht => bk_at h.ra t i r e ht
  have := few_apart (n := n) (m := r.2.2.2.2 + 1) (qs := fun t => if ht : t ≤ r.2.2.2.2 then (back t ht).choose_spec.choose else r) h0 oks h.ra (i := i) (fun t ht => by
    have ht' : t ≤ r.2.2.2.2 := by omega
    refine ⟨(back t ht').choose, ?_⟩
    rw [dif_pos ht']
    exact (back t ht').choose_spec.choose_spec.2.1) (fun t u lt hu same => by
    have ht' : t ≤ r.2.2.2.2 := by omega
    have hu' : u ≤ r.2.2.2.2 := by omega
    simp only [dif_pos ht', dif_pos hu'] at same
    have A := (back t ht').choose_spec.choose_spec
    have B := (back u hu').choose_spec.choose_spec
    revert same A B
    generalize (back t ht').choose_spec.choose = qt
    generalize (back u hu').choose_spec.choose = qu
    generalize (back t ht').choose = ct
    generalize (back u hu').choose = cu
    intro same A B
    obtain ⟨a1, a2, a3, a4⟩ := A
    obtain ⟨b1, b2, b3, b4⟩ := B
    obtain ⟨c3, q3, d1, d2, d3, d4⟩ := bk_at h.ra (u - t) ct qt a2 (by omega)
    have e3 : bk rl i (t + (u - t)) = some c3 := bk_add t (u - t) i ct c3 a1 d1
    rw [show t + (u - t) = u by omega, b1] at e3
    cases e3
    rw [b2] at d2
    cases d2
    exact ring_none h0 oks h.ra cz st a2 d1 b2 (by omega) same.symm)
  omega
end
end Rise3
namespace K14
open PySem PySem.Spec L2 Rt
open PyProof.Rows hiding St
def iV : Option Int → V
  | none => .non
  | some x => .int x
/-- the last raises lie among the raises -/
def InR (la : List (Option Nat)) (rs : List RT) : Prop := ∀ (p i : Nat), la[p]? = some (some i) → i < rs.length
def spRNumO (CR : Addr) : Sp := fun vs H Q _ => ∃ (a NA CA RA SA LA : Addr) (ps : List Pt) (ri : List (Nat × Nat × Int)) (rs : List RT) (la : List (Option Nat)) (p : Nat), vs = [.ref a, .int (p : Nat)] ∧ RisAt H CR a NA CA RA SA LA ps ri rs la ∧ p < la.length ∧ InR la rs ∧ Q (iV (Rise3.numO rs la p)) H
def spFolO (CR : Addr) : Sp := fun vs H Q _ => ∃ (a NA CA RA SA LA : Addr) (ps : List Pt) (ri : List (Nat × Nat × Int)) (rs : List RT) (la : List (Option Nat)) (k i j : Nat) (l : Int) (pj : Pt), vs = [.ref a, .int (k : Nat)] ∧ RisAt H CR a NA CA RA SA LA ps ri rs la ∧ ri[k]? = some (i, j, l) ∧
  i < la.length ∧ j < la.length ∧ InR la rs ∧ ps[j]? = some pj ∧ 0 < pj.2.2 ∧ rs.length ≤ 1000000 ∧
  ((∀ (a : Nat) (r : RT), la[i]? = some (some a) → rs[a]? = some r → ∃ (b : Nat) (q : RT), la[j]? = some (some b) ∧ rs[b]? = some q ∧ upv pj.2.1 pj.2.2 (r.2.1 + l) ≤ q.2.1) → Q (.bl false) H) ∧
  (∀ (ci : Nat) (r1 : RT), la[i]? = some (some ci) → rs[ci]? = some r1 → (∀ (b : Nat) (q : RT), la[j]? = some (some b) → rs[b]? = some q → q.2.1 < upv pj.2.1 pj.2.2 (r1.2.1 + l)) →
    ∀ H', Sb2 SA LA H H' → RisAt H' CR a NA CA RA SA LA ps ri (rs ++ [(j, upv pj.2.1 pj.2.2 (r1.2.1 + l), some k, some ci, r1.2.2.2.2 + 1)]) (la.set j (some rs.length)) → Q (.bl true) H')
def spRNumsO (CR : Addr) : Sp := fun vs H Q _ => ∃ (a NA CA RA SA LA : Addr) (ps : List Pt) (ri : List (Nat × Nat × Int)) (rs : List RT) (la : List (Option Nat)), vs = [.ref a] ∧ RisAt H CR a NA CA RA SA LA ps ri rs la ∧ la.length = ps.length ∧ ps.length ≤ 100 ∧ InR la rs ∧
  ∀ t H', Same H H' → H' t = some (.tup ((List.range ps.length).map fun p => iV (Rise3.numO rs la p))) → Q (.ref t) H'
section
variable {P : Program} {w : World} {K : PySem.W.Frag} {mg : Str → Option Value} {base : Heap} {f C CR : Addr} {fd : FuncData}

theorem ok_rnumO (F : Fun K "_number" "Rising._number" sRNum f fd) (cr : ClsR K CR) : FnOk P w K mg base CX0 1 f fd ["self", "point"] (spRNumO CR) := by
  refine F.ok scRNum (fun vs H Q E h => ?_) (fun cdv A outer s H vs Q E hr h => ?_)
  · obtain ⟨a, NA, CA, RA, SA, LA, ps, ri, rs, la, p, rfl, _⟩ := h
    rfl
  · obtain ⟨a, NA, CA, RA, SA, LA, ps, ri, rs, la, p, rfl, ris, hp, inr, k⟩ := h
    refine ⟨_, (pss_cons (ps_set (i := 2) scRNum.nd rfl (.inl rfl) (pe_ix ix_list (pe_fld (pv 0) (by rfl)) (pv 1) (fun _ _ => rfl)))
      (pss_one (ps_ret (pe_ifExp (pt_cmpR op_isN (pv 2) pe_non (nomark _)) pe_non (pe_ix ix_tup (pe_ix ix_list (pe_fld (pv 0) (by rfl)) (pv 2) (fun _ _ => rfl)) pe_int (fun _ _ => rfl)))))), ?_⟩
    obtain ⟨dx, h1⟩ := ris.at_
    obtain ⟨ss, hs, row⟩ := ris.ra
    cases ep : la[p]? with
    | none => exact absurd (List.getElem?_eq_none_iff.mp ep) (by omega)
    | some o =>
      refine ⟨_, rfl, a, CR, dx, _, _, rfl, h1, cr.cls, cr.n6, lk6, _, rfl, LA, _, _, _, rfl, rfl, SqL.of ris.la, atN (i := p) (by rw [List.getElem?_map, ep]; rfl), ?_⟩
      cases o with
      | none =>
        rw [Rise3.numO_no ep] at k
        exact ⟨_, rfl, rfl, _, rfl, iteT k⟩
      | some i =>
        have il := inr p i ep
        have er := List.getElem?_eq_getElem il
        have il2 : i < ss.length := by rw [row.1]; exact il
        have hsi := List.getElem?_eq_getElem il2
        rw [Rise3.numO_at ep er] at k
        refine ⟨_, rfl, rfl, _, rfl, iteF ?_⟩
        refine ⟨_, rfl, a, CR, dx, _, _, rfl, h1, cr.cls, cr.n5, lk5, _, rfl, SA, _, _, _, rfl, rfl, SqL.of hs, atN (i := i) (by rw [List.getElem?_map, hsi]; rfl), ss[i], _, 1, _, rfl, rfl, SqT.of (row.2 i _ _ hsi er), rfl, ?_⟩
        exact k
theorem ok_folO (F : Fun K "_follow" "Rising._follow" sFol f fd) (T : Wds mg) (cr : ClsR K CR) (fUp : Cf P w K mg base 1 "up" spPUp) (mNum : Md P w K mg base 1 CR "_number" (spRNumO CR)) : FnOk P w K mg base CX0 2 f fd ["self", "rule"] (spFolO CR) := by
  refine F.ok scFol (fun vs H Q E h => ?_) (fun cdv A outer s H vs Q E hr h => ?_)
  · obtain ⟨a, NA, CA, RA, SA, LA, ps, ri, rs, la, k, i, j, l, pj, rfl, _⟩ := h
    rfl
  · obtain ⟨a, NA, CA, RA, SA, LA, ps, ri, rs, la, k, i, j, l, pj, rfl, ris, hk, hil, hjl, inr, hpj, s0, few, kF, kT⟩ := h
    refine ⟨_, (pss_cons (ps_asg (pe_ix ix_list (pe_fld (pv 0) (by rfl)) (pv 1) (fun _ _ => rfl)) (pg_tup (by rfl) (pgs_cons (pg_name (i := 2) scFol.nd rfl (.inl rfl)) (pgs_cons (pg_name (i := 3) scFol.nd rfl (.inl rfl)) (pgs_cons (pg_name (i := 4) scFol.nd rfl (.inl rfl)) pgs_nil)))))
      (pss_cons (ps_set (i := 5) scFol.nd rfl (.inl rfl) (pe_ix ix_list (pe_fld (pv 0) (by rfl)) (pv 2) (fun _ _ => rfl)))
      (pss_cons (ps_if (pt_cmpR op_isN (pv 5) pe_non (nomark _)) (pss_one (ps_ret pe_bl)) pss_nil)
      (pss_cons (ps_set (i := 6) scFol.nd rfl (.inl rfl) (pe_f fUp hr (by decide) (by rfl) (pa_cons (pe_ix ix_list (pe_fld (pv 0) (by rfl)) (pv 3) (fun _ _ => rfl)) (pa_cons (pe_op op_add (pe_ix ix_tup (pe_ix ix_list (pe_fld (pv 0) (by rfl)) (pv 5) (fun _ _ => rfl)) pe_int (fun _ _ => rfl)) (pv 4)) pa_nil))))
      (pss_cons (ps_set (i := 7) scFol.nd rfl (.inl rfl) (pe_m cr.cls mNum hr (by decide) (pv 0) (pa_cons (pv 3) pa_nil)))
      (pss_cons (ps_if (PW.pt (pw_and (pt_cmpR op_notN (pv 7) pe_non (nomark _)) (pw_and1 (pt_cmpR op_ge (pv 7) (pv 6) (nomark _))))) (pss_one (ps_ret pe_bl)) pss_nil)
      (pss_cons (ps_asg (pe_callB call_len_seq (by rfl) T.zlen (by decide +kernel) (pa_cons (pe_fld (pv 0) (by rfl)) pa_nil)) (pg_sub (pe_fld (pv 0) (by rfl)) (pv 3) set_list))
      (pss_cons (ps_expr (pe_bm PySem.F.plainAttrs_list PySem.F.slot_list_append PySem.F.type_list_append mt_append (pe_fld (pv 0) (by rfl)) (pa_cons (pe_tup (pa_cons (pv 3) (pa_cons (pv 6) (pa_cons (pv 1) (pa_cons (pv 5) (pa_cons (pe_op op_add (pe_ix ix_tup (pe_ix ix_list (pe_fld (pv 0) (by rfl)) (pv 5) (fun _ _ => rfl)) pe_int (fun _ _ => rfl)) pe_int) pa_nil)))))) pa_nil)))
      (pss_one (ps_ret pe_bl)))))))))), ?_⟩
    obtain ⟨dx, h1⟩ := ris.at_
    obtain ⟨cs, hcs, rowc⟩ := ris.ck
    obtain ⟨bs, hbs, rowb⟩ := ris.ru
    obtain ⟨ss, hss, row⟩ := ris.ra
    have kl : k < bs.length := by rw [rowb.1]; exact (List.getElem?_eq_some_iff.mp hk).1
    have jl : j < cs.length := by rw [rowc.1]; exact (List.getElem?_eq_some_iff.mp hpj).1
    have ek := List.getElem?_eq_getElem kl
    have ej := List.getElem?_eq_getElem jl
    have hbk := rowb.2 k _ _ ek hk
    have hcj := rowc.2 j _ _ ej hpj
    have ssl : ss.length = rs.length := row.1
    have ei := List.getElem?_eq_getElem hil
    have ela := List.getElem?_eq_getElem hjl
    revert ei ela
    generalize la[i] = oi
    generalize la[j] = oj
    intro ei ela
    refine ⟨_, rfl, a, CR, dx, _, _, rfl, h1, cr.cls, cr.n4, lk4, _, rfl, RA, _, _, _, rfl, rfl, SqL.of hbs, atN (i := k) (by rw [List.getElem?_map, ek]; rfl), bs[k], _, rfl, SqT.of hbk, rfl, _, _, rfl, _, _, rfl, _, _, rfl, rfl, ?_⟩
    refine ⟨_, rfl, a, CR, dx, _, _, rfl, h1, cr.cls, cr.n6, lk6, _, rfl, LA, _, _, _, rfl, rfl, SqL.of ris.la, atN (i := i) (by rw [List.getElem?_map, ei]; rfl), ?_⟩
    cases oi with
    | none =>
      refine ⟨_, rfl, rfl, _, rfl, iteT ?_⟩
      refine kF fun a r e => ?_
      rw [ei] at e
      cases e
    | some ci =>
    have h1l := inr i ci ei
    have h1c := List.getElem?_eq_getElem h1l
    revert h1c
    generalize rs[ci] = r1
    intro h1c
    have cl : ci < ss.length := by rw [row.1]; exact h1l
    have ec := List.getElem?_eq_getElem cl
    have hsc := row.2 ci _ _ ec h1c
    refine ⟨_, rfl, rfl, _, rfl, iteF ?_⟩
    -- number
    refine ⟨_, rfl, a, CR, dx, _, _, rfl, h1, cr.cls, cr.n3, lk3, _, rfl, CA, _, _, _, rfl, rfl, SqL.of hcs, atN (i := j) (by rw [List.getElem?_map, ej]; rfl), ?_⟩
    refine ⟨_, rfl, a, CR, dx, _, _, rfl, h1, cr.cls, cr.n5, lk5, _, rfl, SA, _, _, _, rfl, rfl, SqL.of hss, atN (i := ci) (by rw [List.getElem?_map, ec]; rfl), ss[ci], _, 1, _, rfl, rfl, SqT.of hsc, rfl, _, rfl, _, _, rfl, rfl, ?_⟩
    refine ⟨cs[j], pj.2.1, pj.2.2, r1.2.1 + l, rfl, hcj, s0, ?_⟩
    rw [up_eq s0]
    refine ⟨_, rfl, a, dx, _, rfl, h1, lk_no (by decide +kernel) (by decide +kernel) (by decide +kernel) (by decide +kernel) (by decide +kernel) (by decide +kernel), _, rfl, a, NA, CA, RA, SA, LA, ps, ri, rs, la, j, rfl, ris, hjl, inr, ?_⟩
    cases oj with
    | none =>
      rw [Rise3.numO_no ela]
      have gt : ∀ (b : Nat) (q : RT), la[j]? = some (some b) → rs[b]? = some q → q.2.1 < upv pj.2.1 pj.2.2 (r1.2.1 + l) := fun b q e => by
        rw [ela] at e
        cases e
      refine ⟨_, rfl, rfl, _, rfl, iteF ?_⟩
      refine iteF ?_
      have jla : j < la.length := hjl
      refine ⟨_, rfl, a, CR, dx, _, _, rfl, h1, cr.cls, cr.n5, lk5, SA, _, rfl, .inl (SqL.of hss), _, rfl, a, CR, dx, _, _, rfl, h1, cr.cls, cr.n6, lk6, _, rfl, LA, la.map oV, (j : Nat), j, rfl, rfl, ris.la, ?_, ?_⟩
      · unfold ixN
        rw [if_pos (by first | omega | exact ⟨by omega, by rw [List.length_map]; omega⟩)]
        rw [if_pos (by rw [List.length_map]; omega)]
        simp
      have el : (la.map oV).set j (V.int (((ss.map V.ref).length : Nat) : Int)) = (la.set j (some rs.length)).map oV := by
        rw [List.map_set, List.length_map, ssl]
        rfl
      rw [el]
      have sL : Sb2 SA LA H (upd H LA (.lst ((la.set j (some rs.length)).map oV))) := fun b o e n m => by rw [upd_ne m]; exact e
      have h1' := sL _ _ h1 (ne_of h1 hss (by intro z; cases z)) (ne_of h1 ris.la (by intro z; cases z))
      have hss' : (upd H LA (.lst ((la.set j (some rs.length)).map oV))) SA = some (.lst (ss.map V.ref)) := by rw [upd_ne ris.d1]; exact hss
      have hsc' := sL _ _ hsc (ne_of hsc hss (by intro z; cases z)) (ne_of hsc ris.la (by intro z; cases z))
      refine ⟨_, rfl, a, CR, dx, _, _, rfl, h1', cr.cls, cr.n5, lk5, .inl ⟨rfl, _, SqL.of hss'⟩, ?_⟩
      refine ⟨_, rfl, _, rfl, _, rfl, _, rfl, _, rfl, a, CR, dx, _, _, rfl, h1', cr.cls, cr.n5, lk5, _, rfl, SA, _, _, _, rfl, rfl, SqL.of hss', atN (i := ci) (by rw [List.getElem?_map, ec]; rfl), ss[ci], _, 4, _, rfl, rfl, SqT.of hsc', rfl, _, _, rfl, rfl, (by show 5 ≤ sizeLine; decide), fun q nq => ?_⟩
      obtain ⟨ris2, sb2⟩ := ris.push (r := (j, upv pj.2.1 pj.2.2 (r1.2.1 + l), some k, some ci, r1.2.2.2.2 + 1)) (j := j) hss row nq
      have hss2 := (same_new (o := raV (j, upv pj.2.1 pj.2.2 (r1.2.1 + l), some k, some ci, r1.2.2.2.2 + 1)) nq) _ _ hss'
      refine ⟨SA, _, .ref q, rfl, rfl, hss2, ?_, ?_⟩
      · rw [List.length_map, ssl, sizeLine_eq]
        omega
      exact kT ci r1 ei h1c gt _ sb2 ris2
    | some cj =>
      have h2l := inr j cj ela
      have h2c := List.getElem?_eq_getElem h2l
      revert h2c
      generalize rs[cj] = r2
      intro h2c
      rw [Rise3.numO_at ela h2c]
      refine ⟨_, rfl, rfl, _, rfl, iteT ?_⟩
      refine ⟨_, rfl, _, rfl, _, _, rfl, rfl, _, rfl, ?_⟩
      by_cases le : upv pj.2.1 pj.2.2 (r1.2.1 + l) ≤ r2.2.1
      · rw [decide_eq_true (show r2.2.1 ≥ upv pj.2.1 pj.2.2 (r1.2.1 + l) from le)]
        refine iteT (kF fun a r e1 e2 => ?_)
        rw [ei] at e1
        cases e1
        rw [h1c] at e2
        cases e2
        exact ⟨cj, r2, ela, h2c, le⟩
      rw [decide_eq_false (show ¬ r2.2.1 ≥ upv pj.2.1 pj.2.2 (r1.2.1 + l) from le)]
      have gt : ∀ (b : Nat) (q : RT), la[j]? = some (some b) → rs[b]? = some q → q.2.1 < upv pj.2.1 pj.2.2 (r1.2.1 + l) := fun b q e e2 => by
        rw [ela] at e
        cases e
        rw [h2c] at e2
        cases e2
        omega
      refine iteF ?_
      have jla : j < la.length := hjl
      refine ⟨_, rfl, a, CR, dx, _, _, rfl, h1, cr.cls, cr.n5, lk5, SA, _, rfl, .inl (SqL.of hss), _, rfl, a, CR, dx, _, _, rfl, h1, cr.cls, cr.n6, lk6, _, rfl, LA, la.map oV, (j : Nat), j, rfl, rfl, ris.la, ?_, ?_⟩
      · unfold ixN
        rw [if_pos (by first | omega | exact ⟨by omega, by rw [List.length_map]; omega⟩)]
        rw [if_pos (by rw [List.length_map]; omega)]
        simp
      have el : (la.map oV).set j (V.int (((ss.map V.ref).length : Nat) : Int)) = (la.set j (some rs.length)).map oV := by
        rw [List.map_set, List.length_map, ssl]
        rfl
      rw [el]
      have sL : Sb2 SA LA H (upd H LA (.lst ((la.set j (some rs.length)).map oV))) := fun b o e n m => by rw [upd_ne m]; exact e
      have h1' := sL _ _ h1 (ne_of h1 hss (by intro z; cases z)) (ne_of h1 ris.la (by intro z; cases z))
      have hss' : (upd H LA (.lst ((la.set j (some rs.length)).map oV))) SA = some (.lst (ss.map V.ref)) := by rw [upd_ne ris.d1]; exact hss
      have hsc' := sL _ _ hsc (ne_of hsc hss (by intro z; cases z)) (ne_of hsc ris.la (by intro z; cases z))
      refine ⟨_, rfl, a, CR, dx, _, _, rfl, h1', cr.cls, cr.n5, lk5, .inl ⟨rfl, _, SqL.of hss'⟩, ?_⟩
      refine ⟨_, rfl, _, rfl, _, rfl, _, rfl, _, rfl, a, CR, dx, _, _, rfl, h1', cr.cls, cr.n5, lk5, _, rfl, SA, _, _, _, rfl, rfl, SqL.of hss', atN (i := ci) (by rw [List.getElem?_map, ec]; rfl), ss[ci], _, 4, _, rfl, rfl, SqT.of hsc', rfl, _, _, rfl, rfl, (by show 5 ≤ sizeLine; decide), fun q nq => ?_⟩
      obtain ⟨ris2, sb2⟩ := ris.push (r := (j, upv pj.2.1 pj.2.2 (r1.2.1 + l), some k, some ci, r1.2.2.2.2 + 1)) (j := j) hss row nq
      have hss2 := (same_new (o := raV (j, upv pj.2.1 pj.2.2 (r1.2.1 + l), some k, some ci, r1.2.2.2.2 + 1)) nq) _ _ hss'
      refine ⟨SA, _, .ref q, rfl, rfl, hss2, ?_, ?_⟩
      · rw [List.length_map, ssl, sizeLine_eq]
        omega
      exact kT ci r1 ei h1c gt _ sb2 ris2
theorem ok_rnumsO (F : Fun K "numbers" "Rising.numbers" sRNums f fd) (T : Wds mg) (zrange : mg "range" = none) (cr : ClsR K CR) (mNum : Md P w K mg base 1 CR "_number" (spRNumO CR)) : FnOk P w K mg base CX0 2 f fd ["self"] (spRNumsO CR) := by
  refine F.ok scRNums (fun vs H Q E h => ?_) (fun cdv A outer s H vs Q E hr h => ?_)
  · obtain ⟨a, NA, CA, RA, SA, LA, ps, ri, rs, la, rfl, _⟩ := h
    rfl
  · obtain ⟨a, NA, CA, RA, SA, LA, ps, ri, rs, la, rfl, ris, len, few, inr, k⟩ := h
    refine ⟨_, (pss_one (ps_ret (pe_callTy call_tuple_of (by rfl) T.ztuple (by decide +kernel) (pa_cons (pe_lc (own := [("point", 1)]) (by rfl) scRNums.nd (pi_range1 (by rfl) zrange (pa_cons (pe_callB call_len_seq (by rfl) T.zlen (by decide +kernel) (pa_cons (pe_fld (pv 0) (by rfl)) pa_nil)) pa_nil)) (blkOk_by (N := ["self", "point"]) (sc := defScope sRNums) (by decide +kernel)) (fun _ _ _ _ _ => (pg_name (i := 1) scRNums.nd rfl (.inl rfl))) (fun _ _ _ _ _ => pts_nil) (fun _ _ _ _ _ => (pe_m cr.cls mNum hr (by decide) (pv 0) (pa_cons (pv 1) pa_nil)))) pa_nil)))), ?_⟩
    obtain ⟨dx, h1⟩ := ris.at_
    have nl : ((namesOf ps).map V.str).length = ps.length := by rw [List.length_map]; exact List.length_map ..
    refine ⟨_, rfl, a, CR, dx, _, _, rfl, h1, cr.cls, cr.n1, lk1, NA, _, rfl, .inl (SqL.of ris.nm), (((namesOf ps).map V.str).length : Int), rfl, by omega, by omega, fun D nD => ?_⟩
    rw [nl]
    refine lc_range (lo := 0) (n := ps.length) (fun i H1 => Same H H1 ∧ H1 D = some (.lst ((List.range i).map fun p => iV (Rise3.numO rs la p)))) ⟨same_new nD, upd_same⟩ ?_ ?_
    · rintro i H1 hi ⟨s1, hD⟩
      refine ⟨rfl, _, rfl, a, dx, _, rfl, s1 _ _ h1, lk_no (by decide +kernel) (by decide +kernel) (by decide +kernel) (by decide +kernel) (by decide +kernel) (by decide +kernel), _, rfl, a, NA, CA, RA, SA, LA, ps, ri, rs, la, i, by rw [Int.zero_add]; rfl, ris.same s1, by omega, inr, ?_⟩
      refine ⟨_, hD, small1000 (by rw [List.length_map, List.length_range]; omega), fun b o z => by rw [upd_ne (ne_of_none z nD)]; exact s1 b o z, ?_⟩
      rw [upd_same, List.range_succ, List.map_append]
      rfl
    · rintro H1 ⟨s1, hD⟩
      exact ⟨D, _, rfl, .inl ⟨SqL.of hD, fun t nt => k t _ (s1.trans (same_new nt)) upd_same⟩⟩
end
end K14
/-! ### where a rising starts -/
namespace Rise3
open Rise Rise2
section
variable {n N : Nat} {f s : Nat → Int} {RA : Nat → Nat → Nat → Int → Prop} {X : Nat → Option Int}
/-- the first i floors are told -/
structure Ini (n : Nat) (f s : Nat → Int) (RA : Nat → Nat → Nat → Int → Prop) (X : Nat → Option Int) (i : Nat) (rl : List RT) (la : List (Option Nat)) : Prop where
  ra : Raised n f s RA rl
  ln : la.length = n
  lst : ∀ (p i : Nat), la[p]? = some (some i) → ∃ r : RT, rl[i]? = some r ∧ r.1 = p ∧ ∀ (j : Nat) (q : RT), rl[j]? = some q → q.1 = p → j ≤ i
  no : ∀ p : Nat, la[p]? = some none → ∀ (j : Nat) (q : RT), rl[j]? = some q → q.1 ≠ p
  st : ∀ (j : Nat) (q : RT), rl[j]? = some q → q.2.2.2.2 = 0 ∧ X q.1 = some q.2.1
  ge : ∀ (p : Nat) (x : Int), p < i → X p = some x → ∃ (i : Nat) (r : RT), la[p]? = some (some i) ∧ rl[i]? = some r ∧ x ≤ r.2.1
  lo : ∀ (j : Nat) (q : RT), rl[j]? = some q → q.1 < i
  le : rl.length ≤ i
theorem Ini.zero : Ini n f s RA X 0 [] (List.replicate n none) := by
  refine ⟨⟨fun _ _ e => ?_, fun _ _ e => ?_, fun _ _ _ _ _ e => ?_⟩, List.length_replicate, fun p i e => ?_, fun _ _ _ _ e => ?_, fun _ _ e => ?_, fun _ _ lt => absurd lt (Nat.not_lt_zero _), fun _ _ e => ?_, Nat.le_refl _⟩
  all_goals first | cases e; done | skip
  have := List.mem_of_getElem? e
  rw [List.mem_replicate] at this
  cases this.2
theorem Ini.skip {i : Nat} {rl : List RT} {la : List (Option Nat)} (h : Ini n f s RA X i rl la) (x : X i = none) : Ini n f s RA X (i + 1) rl la := by
  refine ⟨h.ra, h.ln, h.lst, h.no, h.st, fun p y lt e => ?_, fun j q e => Nat.lt_succ_of_lt (h.lo j q e), Nat.le_succ_of_le h.le⟩
  by_cases ep : p = i
  · subst ep
    rw [x] at e
    cases e
  · exact h.ge p y (by omega) e
theorem Ini.add {i : Nat} {x : Int} {rl : List RT} {la : List (Option Nat)} (h : Ini n f s RA X i rl la) (hi : i < n) (e : X i = some x) (on : (x - f i) % s i = 0) : Ini n f s RA X (i + 1) (rl ++ [(i, x, none, none, 0)]) (la.set i (some rl.length)) := by
  have il : i < la.length := by rw [h.ln]; exact hi
  have seti : (la.set i (some rl.length))[i]? = some (some rl.length) := List.getElem?_set_self il
  have setn : ∀ p, p ≠ i → (la.set i (some rl.length))[p]? = la[p]? := fun p ne => List.getElem?_set_ne (fun e => ne e.symm)
  have new : (rl ++ [((i, x, none, none, 0) : RT)])[rl.length]? = some (i, x, none, none, 0) := by
    rw [List.getElem?_append_right (Nat.le_refl _), Nat.sub_self]
    rfl
  refine ⟨h.ra.snoc hi on (.inl ⟨rfl, rfl, rfl⟩) fun j q eq ep => ?_, by rw [List.length_set]; exact h.ln, fun p j ep => ?_, fun p ep j q eq => ?_, fun j q eq => ?_, fun p y lt ep => ?_, fun j q eq => ?_, ?_⟩
  · have := h.lo j q eq
    have ep : q.1 = i := ep
    omega
  · by_cases z : p = i
    · subst z
      rw [seti] at ep
      cases ep
      refine ⟨_, new, rfl, fun j' q e2 _ => ?_⟩
      have := (List.getElem?_eq_some_iff.mp e2).1
      rw [List.length_append] at this
      simp at this
      omega
    · rw [setn p z] at ep
      obtain ⟨r, e1, e2, e3⟩ := h.lst p j ep
      refine ⟨r, old_snoc e1, e2, fun j' q' e4 e5 => ?_⟩
      rcases get_snoc e4 with e4 | ⟨_, rfl⟩
      · exact e3 j' q' e4 e5
      · exact absurd e5.symm z
  · by_cases z : p = i
    · subst z
      rw [seti] at ep
      cases ep
    · rw [setn p z] at ep
      rcases get_snoc eq with eq | ⟨_, rfl⟩
      · exact h.no p ep j q eq
      · exact fun z2 => z z2.symm
  · rcases get_snoc eq with eq | ⟨_, rfl⟩
    · exact h.st j q eq
    · exact ⟨rfl, e⟩
  · by_cases z : p = i
    · subst z
      rw [e] at ep
      cases ep
      exact ⟨rl.length, _, seti, new, Int.le_refl _⟩
    · obtain ⟨j, r, e1, e2, le⟩ := h.ge p y (by omega) ep
      exact ⟨j, r, by rw [setn p z]; exact e1, old_snoc e2, le⟩
  · rcases get_snoc eq with eq | ⟨_, rfl⟩
    · exact Nat.lt_succ_of_lt (h.lo j q eq)
    · exact Nat.lt_succ_self i
  · rw [List.length_append]
    have := h.le
    simp
    omega
theorem Ini.st3 {rl : List RT} {la : List (Option Nat)} (h : Ini n f s RA X n rl la) : St3 n f s RA X rl la 0 0 :=
  ⟨h.ra, h.ln, h.lst, h.no, fun j q e _ => (h.st j q e).2, fun p x hp e => h.ge p x hp e, fun k i j l r a q e1 e2 => .inr (by rw [if_neg (Nat.not_lt_zero k)]; exact Nat.zero_le _)⟩
theorem St3.inr {rl : List RT} {la : List (Option Nat)} {m t : Nat} (h : St3 n f s RA X rl la m t) : ∀ (p i : Nat), la[p]? = some (some i) → i < rl.length := fun p i e => by
  obtain ⟨r, e1, _⟩ := h.lst p i e
  exact (List.getElem?_eq_some_iff.mp e1).1
end
end Rise3
namespace K14
open PySem PySem.Spec L2 Rt
open PyProof.Rows hiding St
/-- the floors that are there, raised to numbers of the clocks -/
def XO (ps : List Pt) (fs : List (Option Int)) (p : Nat) : Option Int := match fs[p]? with
  | some (some x) => some (upv (fN ps p) (sN ps p) x)
  | _ => none
theorem XO_some {ps : List Pt} {fs : List (Option Int)} {p : Nat} {x : Int} (h : fs[p]? = some (some x)) : XO ps fs p = some (upv (fN ps p) (sN ps p) x) := by unfold XO; rw [h]
theorem XO_none {ps : List Pt} {fs : List (Option Int)} {p : Nat} (h : fs[p]? = some none) : XO ps fs p = none := by unfold XO; rw [h]
abbrev IniP (ps : List Pt) (rs : List Rl) (fs : List (Option Int)) : Nat → List RT → List (Option Nat) → Prop := Rise3.Ini ps.length (fN ps) (sN ps) (RuleAt ps rs) (XO ps fs)
theorem repl_none (n : Nat) : ((List.range n).map fun j => if j < 0 then some j else (none : Option Nat)) = List.replicate n none := by
  rw [List.eq_replicate_iff]
  refine ⟨by rw [List.length_map, List.length_range], fun b m => ?_⟩
  obtain ⟨j, _, rfl⟩ := List.mem_map.mp m
  exact if_neg (by omega)
def spRInitO (C CR : Addr) : Sp := fun vs H Q _ => ∃ (a dx n fl : Addr) (ps : List Pt) (rs : List Rl) (fs : List (Option Int)) (M : Nat), vs = [.ref a, .ref n, .ref fl] ∧ H a = some (.ins CR dx []) ∧ NetAt H C n ps rs ∧ Good ps rs ∧ (∀ p, p ∈ ps → 1 ≤ p.2.2 ∧ p.2.2.toNat ∣ M) ∧ 0 < M ∧ M < 2 ^ 60 ∧ Row2 H fl (fs.map iV) ∧ fs.length = ps.length ∧
  ∀ (H' : Hp) (NA CA RA SA LA : Addr) (rl : List RT) (la : List (Option Nat)), Sbut a H H' → H SA = none → H LA = none → RisAt H' CR a NA CA RA SA LA ps (riOf ps rs) rl la → IniP ps rs fs ps.length rl la → Q .non H'
section
variable {P : Program} {w : World} {K : PySem.W.Frag} {mg : Str → Option Value} {base : Heap} {f C CR : Addr} {fd : FuncData}

theorem ok_rinitO (F : Fun K "__init__" "Rising.__init__" sRInit f fd) (T : Wds mg) (cn : ClsN K C) (M : Meths P w K mg base C) (mCk : Md P w K mg base 4 C "clock" (spMClock C)) (cr : ClsR K CR) (fUp : Cf P w K mg base 1 "up" spPUp) : FnOk P w K mg base CX0 5 f fd ["self", "network", "floors"] (spRInitO C CR) := by
  refine F.ok scRInit (fun vs H Q E h => ?_) (fun cdv A outer s H vs Q E hr h => ?_)
  · obtain ⟨a, dx, n, fl, ps, rs, fs, MM, rfl, _⟩ := h
    rfl
  · obtain ⟨a, dx, n, fl, ps, rs, fs, MM, rfl, ha, net, good, dv, m0, m1, hfl, flen, k⟩ := h
    refine ⟨_, (pss_cons (ps_fld (pv 0) (pe_m0' cn.cls M.names hr (by decide) (pv 1)) (by rfl))
      (pss_cons (ps_fld (pv 0) (pe_m0' cn.cls M.period hr (by decide) (pv 1)) (by rfl))
      (pss_cons (ps_fld (pv 0) (pe_lc (own := [("name", 5)]) (by rfl) scRInit.nd (pi_list (pe_fld (pv 0) (by rfl))) (blkOk_by (N := ["self", "network", "floors", "point", "floor", "name", "start", "end", "least"]) (sc := defScope sRInit) (by decide +kernel)) (fun _ _ _ _ _ => (pg_name (i := 5) scRInit.nd rfl (.inl rfl))) (fun _ _ _ _ _ => pts_nil) (fun _ _ _ _ _ => (pe_m cn.cls mCk hr (by decide) (pv 1) (pa_cons (pv 5) pa_nil)))) (by rfl))
      (pss_cons (ps_fld (pv 0) (pe_lc (own := [("start", 6), ("end", 7), ("least", 8)]) (by rfl) scRInit.nd (pi_list (pe_m0' cn.cls M.rules hr (by decide) (pv 1))) (blkOk_by (N := ["self", "network", "floors", "point", "floor", "name", "start", "end", "least"]) (sc := defScope sRInit) (by decide +kernel)) (fun _ _ _ _ _ => (pg_tk (K := K) (n := 3) rfl (by rfl) (pgs_cons (pg_name (i := 6) scRInit.nd rfl (.inl rfl)) (pgs_cons (pg_name (i := 7) scRInit.nd rfl (.inl rfl)) (pgs_cons (pg_name (i := 8) scRInit.nd rfl (.inl rfl)) pgs_nil))) (by rfl) (by rfl))) (fun _ _ _ _ _ => pts_nil) (fun _ _ _ _ _ => (pe_tup (pa_cons (pe_m cn.cls M.index hr (by decide) (pv 1) (pa_cons (pv 6) pa_nil)) (pa_cons (pe_m cn.cls M.index hr (by decide) (pv 1) (pa_cons (pv 7) pa_nil)) (pa_cons (pv 8) pa_nil)))))) (by rfl))
      (pss_cons (ps_fld (pv 0) (pe_lst pa_nil) (by rfl))
      (pss_cons (ps_fld (pv 0) (pe_op op_rep (pe_lst (pa_cons pe_non pa_nil)) (pe_callB call_len_seq (by rfl) T.zlen (by decide +kernel) (pa_cons (pe_fld (pv 0) (by rfl)) pa_nil))) (by rfl))
      (pss_one (ps_for PassesOwn.never rfl (pi_enumS (by rfl) T.zenumerate (pa_cons (pv 2) pa_nil)) (pg_tup (by rfl) (pgs_cons (pg_name (i := 3) scRInit.nd rfl (.inl rfl)) (pgs_cons (pg_name (i := 4) scRInit.nd rfl (.inl rfl)) pgs_nil)))
        (pss_one (ps_if (pt_cmpR op_notN (pv 4) pe_non (nomark _)) (pss_cons (ps_asg (pe_callB call_len_seq (by rfl) T.zlen (by decide +kernel) (pa_cons (pe_fld (pv 0) (by rfl)) pa_nil)) (pg_sub (pe_fld (pv 0) (by rfl)) (pv 3) set_list))
          (pss_one (ps_expr (pe_bm PySem.F.plainAttrs_list PySem.F.slot_list_append PySem.F.type_list_append mt_append (pe_fld (pv 0) (by rfl)) (pa_cons (pe_tup (pa_cons (pv 3) (pa_cons (pe_f fUp hr (by decide) (by rfl) (pa_cons (pe_ix ix_list (pe_fld (pv 0) (by rfl)) (pv 3) (fun _ _ => rfl)) (pa_cons (pv 4) pa_nil))) (pa_cons pe_non (pa_cons pe_non (pa_cons pe_int pa_nil)))))) pa_nil))))) pss_nil)))))))))), ?_⟩
    obtain ⟨dn, fsn, hN, look⟩ := net_look net
    have na : n ≠ a := fun z => by
      subst z
      rw [ha] at hN
      cases hN
      obtain ⟨dx2, PA, RA, DA, as, bs, h1, _⟩ := net.ex
      rw [ha] at h1
      cases h1
    have netB : ∀ {H' : Hp}, Sbut a H H' → NetAt H' C n ps rs := fun {H'} b => net_but net ha b
    refine ⟨_, rfl, n, dn, fsn, rfl, hN, look _ (by decide +kernel) (by decide +kernel) (by decide +kernel), n, ps, rs, rfl, net, good.few, fun NA H1 nNA s1 hNA => ?_⟩
    have NAa : NA ≠ a := (ne_of_none ha nNA).symm
    refine ⟨_, rfl, a, CR, dx, [], rfl, s1 _ _ ha, cr.cls, cr.n1, (by decide : 0 < 1000), ?_⟩
    rw [show putF "_names" (V.ref NA) [] = [(("_names" : Str), V.ref NA)] from rfl]
    have b2 : Sbut a H (upd H1 a (.ins CR dx [("_names", .ref NA)])) := (Sbut.of s1).trans Sbut.put
    have ha2 : (upd H1 a (.ins CR dx [("_names", .ref NA)])) a = some (.ins CR dx [("_names", .ref NA)]) := upd_same
    have hNA2 : (upd H1 a (.ins CR dx [("_names", .ref NA)])) NA = some (.lst ((namesOf ps).map V.str)) := by rw [upd_ne NAa]; exact hNA
    revert b2 ha2 hNA2
    generalize upd H1 a (.ins CR dx [("_names", .ref NA)]) = H2
    intro b2 ha2 hNA2
    clear hNA s1
    -- period
    refine ⟨_, rfl, n, dn, fsn, rfl, b2 _ _ hN na, look _ (by decide +kernel) (by decide +kernel) (by decide +kernel), n, ps, rs, MM, rfl, netB b2, dv, m0, m1, ?_⟩
    refine ⟨_, rfl, a, CR, dx, _, rfl, ha2, cr.cls, cr.n2, (by show 1 < 1000; decide), ?_⟩
    rw [pt2]
    have b3 : Sbut a H (upd H2 a (.ins CR dx [("_names", .ref NA), ("_period", .int (lcmOf ps))])) := b2.trans Sbut.put
    have ha3 : (upd H2 a (.ins CR dx [("_names", .ref NA), ("_period", .int (lcmOf ps))])) a = some (.ins CR dx [("_names", .ref NA), ("_period", .int (lcmOf ps))]) := upd_same
    have hNA3 : (upd H2 a (.ins CR dx [("_names", .ref NA), ("_period", .int (lcmOf ps))])) NA = some (.lst ((namesOf ps).map V.str)) := by rw [upd_ne NAa]; exact hNA2
    revert b3 ha3 hNA3
    generalize upd H2 a (.ins CR dx [("_names", .ref NA), ("_period", .int (lcmOf ps))]) = H3
    intro b3 ha3 hNA3
    clear b2 ha2 hNA2
    -- clocks
    refine ⟨_, rfl, a, CR, dx, _, _, rfl, ha3, cr.cls, cr.n1, rfl, NA, rfl, ⟨_, SqL.of hNA3⟩, fun CA nCA => ?_⟩
    refine lc_it walk_list (fun i H4 => Same H3 H4 ∧ ∃ cs : List Addr, H4 CA = some (.lst (cs.map V.ref)) ∧ Row ckV H4 cs (ps.take i)) ⟨same_new nCA, [], upd_same, rfl, fun _ _ _ z => by cases z⟩ (fun i H4 _ z => SqL.of (z.1 _ _ hNA3)) ?_ ?_
    · rintro i y H4 H5 hi ⟨s4, cs, h4, row⟩ ⟨rfl, hy⟩
      have hi' : i < ps.length := by rw [List.length_map, List.length_map] at hi; exact hi
      have ep := List.getElem?_eq_getElem hi'
      obtain rfl : V.str ps[i].1 = y := by
        rw [List.getElem?_map, List.getElem?_map, ep] at hy
        exact Option.some.inj hy
      have b4 := b3.trans (Sbut.of s4)
      refine ⟨rfl, _, rfl, n, dn, fsn, rfl, b4 _ _ hN na, look _ (by decide +kernel) (by decide +kernel) (by decide +kernel), _, rfl, n, ps, rs, i, ps[i], rfl, netB b4, good.nd, ep, fun t H6 s6 ht => ?_⟩
      have h6 := s6 _ _ h4
      have row6 := row.same s6
      refine ⟨_, h6, small1000 (by rw [List.length_map, row.1, List.length_take]; have := good.few; omega), fun b o z => by rw [upd_ne (ne_of_none z nCA)]; exact (s4.trans s6) b o z, cs ++ [t], ?_, ?_⟩
      · rw [upd_same, List.map_append]
        rfl
      · rw [List.take_succ, ep]
        refine Row.snoc (row6.but (fun b o z ne => by rw [upd_ne ne]; exact z) (row_not row6 h6 (fun p z => by cases z))) ?_
        rw [upd_ne (ne_of ht h6 (by intro z; cases z))]
        exact ht
    rintro H4 ⟨s4, cs, hCA, rowC⟩
    rw [List.take_of_length_le (by rw [List.length_map, List.length_map]; exact Nat.le_refl _)] at rowC
    have b4 := b3.trans (Sbut.of s4)
    have ha4 := s4 _ _ ha3
    have hNA4 := s4 _ _ hNA3
    have CAa : CA ≠ a := ne_of hCA ha4 (by intro z; cases z)
    refine ⟨_, rfl, a, CR, dx, _, rfl, ha4, cr.cls, cr.n3, (by show 2 < 1000; decide), ?_⟩
    rw [pt3]
    have b5 : Sbut a H (upd H4 a (.ins CR dx [("_names", .ref NA), ("_period", .int (lcmOf ps)), ("_clocks", .ref CA)])) := b4.trans Sbut.put
    have ha5 : (upd H4 a (.ins CR dx [("_names", .ref NA), ("_period", .int (lcmOf ps)), ("_clocks", .ref CA)])) a = some (.ins CR dx [("_names", .ref NA), ("_period", .int (lcmOf ps)), ("_clocks", .ref CA)]) := upd_same
    have hNA5 : (upd H4 a (.ins CR dx [("_names", .ref NA), ("_period", .int (lcmOf ps)), ("_clocks", .ref CA)])) NA = some (.lst ((namesOf ps).map V.str)) := by rw [upd_ne NAa]; exact hNA4
    have hCA5 : (upd H4 a (.ins CR dx [("_names", .ref NA), ("_period", .int (lcmOf ps)), ("_clocks", .ref CA)])) CA = some (.lst (cs.map V.ref)) := by rw [upd_ne CAa]; exact hCA
    have rowC5 : Row ckV (upd H4 a (.ins CR dx [("_names", .ref NA), ("_period", .int (lcmOf ps)), ("_clocks", .ref CA)])) cs ps := rowC.but Sbut.put (row_not rowC ha4 (fun p z => by cases z))
    revert b5 ha5 hNA5 hCA5 rowC5
    generalize upd H4 a (.ins CR dx [("_names", .ref NA), ("_period", .int (lcmOf ps)), ("_clocks", .ref CA)]) = H5
    intro b5 ha5 hNA5 hCA5 rowC5
    clear rowC hCA hNA4 ha4 b4 s4 hNA3 ha3 b3
    -- rules
    refine ⟨_, rfl, n, dn, fsn, rfl, b5 _ _ hN na, look _ (by decide +kernel) (by decide +kernel) (by decide +kernel), n, ps, rs, rfl, netB b5, fun RL bs H6 nRL s6 hRL rowR => ?_⟩
    refine ⟨RL, rfl, ⟨_, SqL.of hRL⟩, fun RA nRA => ?_⟩
    refine lc_it walk_list (fun i H7 => Same H6 H7 ∧ ∃ qs : List Addr, H7 RA = some (.lst (qs.map V.ref)) ∧ Row ruV H7 qs ((riOf ps rs).take i)) ⟨same_new nRA, [], upd_same, rfl, fun _ _ _ z => by cases z⟩ (fun i H7 _ z => SqL.of (z.1 _ _ hRL)) ?_ ?_
    · rintro i y H7 H8 hi ⟨s7, qs, h7, row⟩ ⟨rfl, hy⟩
      have hi' : i < bs.length := by rw [List.length_map] at hi; exact hi
      have hir : i < rs.length := by rw [← rowR.1]; exact hi'
      have er := List.getElem?_eq_getElem hir
      obtain rfl : V.ref bs[i] = y := by
        rw [List.getElem?_map, List.getElem?_eq_getElem hi'] at hy
        exact Option.some.inj hy
      have pb := s7 _ _ (rowR.2 i _ _ (List.getElem?_eq_getElem hi') er)
      have b7 := (b5.trans (Sbut.of s6)).trans (Sbut.of s7)
      obtain ⟨m1', m2'⟩ := good.ends rs[i] (List.getElem_mem hir)
      refine ⟨bs[i], _, rfl, SqT.of pb, rfl, _, _, rfl, _, _, rfl, _, _, rfl, rfl, rfl, ?_⟩
      refine ⟨_, rfl, n, dn, fsn, rfl, b7 _ _ hN na, look _ (by decide +kernel) (by decide +kernel) (by decide +kernel), _, rfl, n, ps, rs, idx ps rs[i].1, rs[i].1, rfl, netB b7, good.nd, idx_at m1', ?_⟩
      refine ⟨_, rfl, n, dn, fsn, rfl, b7 _ _ hN na, look _ (by decide +kernel) (by decide +kernel) (by decide +kernel), _, rfl, n, ps, rs, idx ps rs[i].2.1, rs[i].2.1, rfl, netB b7, good.nd, idx_at m2', ?_⟩
      refine ⟨_, rfl, (by show 3 ≤ sizeLine; decide), fun q nq => ?_⟩
      have eri : (riOf ps rs)[i]? = some (idx ps rs[i].1, idx ps rs[i].2.1, rs[i].2.2) := by
        show (rs.map _)[i]? = _
        rw [List.getElem?_map, er]
        rfl
      have s8 := same_new (o := ruV (idx ps rs[i].1, idx ps rs[i].2.1, rs[i].2.2)) nq
      have h8 := s8 _ _ h7
      have row8 := row.same s8
      refine ⟨_, h8, small1000 (by rw [List.length_map, row.1, List.length_take, show (riOf ps rs).length = rs.length from List.length_map ..]; have := good.fewR; omega), fun b o z => by rw [upd_ne (ne_of_none z nRA)]; exact (s7.trans s8) b o z, qs ++ [q], ?_, ?_⟩
      · rw [upd_same, List.map_append]
        rfl
      · rw [List.take_succ, eri]
        refine Row.snoc (row8.but (fun b o z ne => by rw [upd_ne ne]; exact z) (row_not row8 h8 (fun p z => by cases z))) ?_
        rw [upd_ne (ne_of_none h7 nq).symm, upd_same]
        rfl
    rintro H7 ⟨s7, qs, hRA, rowU⟩
    rw [List.take_of_length_le (by rw [List.length_map, rowR.1]; exact Nat.le_of_eq (List.length_map ..))] at rowU
    have s67 := s6.trans s7
    have b7 := b5.trans (Sbut.of s67)
    have ha7 := s67 _ _ ha5
    have hNA7 := s67 _ _ hNA5
    have hCA7 := s67 _ _ hCA5
    have rowC7 := rowC5.same s67
    have RAa : RA ≠ a := ne_of hRA ha7 (by intro z; cases z)
    refine ⟨_, rfl, a, CR, dx, _, rfl, ha7, cr.cls, cr.n4, (by show 3 < 1000; decide), ?_⟩
    rw [pt4]
    have b8 : Sbut a H (upd H7 a (.ins CR dx [("_names", .ref NA), ("_period", .int (lcmOf ps)), ("_clocks", .ref CA), ("_rules", .ref RA)])) := b7.trans Sbut.put
    have ha8 : (upd H7 a (.ins CR dx [("_names", .ref NA), ("_period", .int (lcmOf ps)), ("_clocks", .ref CA), ("_rules", .ref RA)])) a = some (.ins CR dx [("_names", .ref NA), ("_period", .int (lcmOf ps)), ("_clocks", .ref CA), ("_rules", .ref RA)]) := upd_same
    have hNA8 : (upd H7 a (.ins CR dx [("_names", .ref NA), ("_period", .int (lcmOf ps)), ("_clocks", .ref CA), ("_rules", .ref RA)])) NA = some (.lst ((namesOf ps).map V.str)) := by rw [upd_ne NAa]; exact hNA7
    have hCA8 : (upd H7 a (.ins CR dx [("_names", .ref NA), ("_period", .int (lcmOf ps)), ("_clocks", .ref CA), ("_rules", .ref RA)])) CA = some (.lst (cs.map V.ref)) := by rw [upd_ne CAa]; exact hCA7
    have hRA8 : (upd H7 a (.ins CR dx [("_names", .ref NA), ("_period", .int (lcmOf ps)), ("_clocks", .ref CA), ("_rules", .ref RA)])) RA = some (.lst (qs.map V.ref)) := by rw [upd_ne RAa]; exact hRA
    have rowC8 : Row ckV (upd H7 a (.ins CR dx [("_names", .ref NA), ("_period", .int (lcmOf ps)), ("_clocks", .ref CA), ("_rules", .ref RA)])) cs ps := rowC7.but Sbut.put (row_not rowC7 ha7 (fun p z => by cases z))
    have rowU8 : Row ruV (upd H7 a (.ins CR dx [("_names", .ref NA), ("_period", .int (lcmOf ps)), ("_clocks", .ref CA), ("_rules", .ref RA)])) qs (riOf ps rs) := rowU.but Sbut.put (row_not rowU ha7 (fun p z => by cases z))
    revert b8 ha8 hNA8 hCA8 hRA8 rowC8 rowU8
    generalize upd H7 a (.ins CR dx [("_names", .ref NA), ("_period", .int (lcmOf ps)), ("_clocks", .ref CA), ("_rules", .ref RA)]) = H8
    intro b8 ha8 hNA8 hCA8 hRA8 rowC8 rowU8
    clear rowU rowC7 hCA7 hNA7 ha7 b7 s67 hRA s7 rowR hRL s6 rowC5 hCA5 hNA5 ha5 b5
    refine ⟨Nat.zero_le _, fun SA nSA => ?_⟩
    have SAa : SA ≠ a := (ne_of_none ha8 nSA).symm
    refine ⟨_, rfl, a, CR, dx, _, rfl, (same_new nSA) _ _ ha8, cr.cls, cr.n5, (by show 4 < 1000; decide), ?_⟩
    rw [pt5]
    have b9 : Sbut a H8 (upd (upd H8 SA (.lst [])) a (.ins CR dx [("_names", .ref NA), ("_period", .int (lcmOf ps)), ("_clocks", .ref CA), ("_rules", .ref RA), ("_raises", .ref SA)])) := (Sbut.of (same_new nSA)).trans Sbut.put
    have ha9 : (upd (upd H8 SA (.lst [])) a (.ins CR dx [("_names", .ref NA), ("_period", .int (lcmOf ps)), ("_clocks", .ref CA), ("_rules", .ref RA), ("_raises", .ref SA)])) a = some (.ins CR dx [("_names", .ref NA), ("_period", .int (lcmOf ps)), ("_clocks", .ref CA), ("_rules", .ref RA), ("_raises", .ref SA)]) := upd_same
    have hSA9 : (upd (upd H8 SA (.lst [])) a (.ins CR dx [("_names", .ref NA), ("_period", .int (lcmOf ps)), ("_clocks", .ref CA), ("_rules", .ref RA), ("_raises", .ref SA)])) SA = some (.lst []) := by rw [upd_ne SAa, upd_same]
    revert b9 ha9 hSA9
    generalize upd (upd H8 SA (.lst [])) a (.ins CR dx [("_names", .ref NA), ("_period", .int (lcmOf ps)), ("_clocks", .ref CA), ("_rules", .ref RA), ("_raises", .ref SA)]) = H9
    intro b9 ha9 hSA9
    have hNA9 := b9 _ _ hNA8 NAa
    have hCA9 := b9 _ _ hCA8 CAa
    have hRA9 := b9 _ _ hRA8 RAa
    have rowC9 := rowC8.but b9 (row_not rowC8 ha8 (fun p z => by cases z))
    have rowU9 := rowU8.but b9 (row_not rowU8 ha8 (fun p z => by cases z))
    have t9 := b8.trans b9
    have nSA0 : H SA = none := none_but b8 SAa nSA
    refine ⟨(by show 1 ≤ sizeLine; decide), fun P0 nP0 => ?_⟩
    refine ⟨_, rfl, a, CR, dx, _, _, rfl, (same_new nP0) _ _ ha9, cr.cls, cr.n1, rfl, ?_⟩
    have nl : ((namesOf ps).map V.str).length = ps.length := by rw [List.length_map]; exact List.length_map ..
    refine ⟨NA, _, rfl, .inl (SqL.of ((same_new nP0) _ _ hNA9)), ?_⟩
    rw [nl]
    refine ⟨P0, (ps.length : Nat), [.non], rfl, rfl, upd_same, by omega, by have := good.few; omega, ?_, fun LA nLA => ?_⟩
    · show 1 * ps.length ≤ sizeLine
      rw [sizeLine_eq]
      have := good.few
      omega
    have rep : (List.replicate ((ps.length : Nat) : Int).toNat [V.non]).flatten = ((List.range ps.length).map fun j => if j < 0 then some j else (none : Option Nat)).map oV := by
      rw [Int.toNat_natCast]
      exact rep_non ps.length
    rw [rep]
    have sLA := (same_new (o := .lst [.non]) nP0).trans (same_new (o := .lst (((List.range ps.length).map fun j => if j < 0 then some j else (none : Option Nat)).map oV)) nLA)
    have LAa : LA ≠ a := ne_of_none (by exact ha9) (by
      cases e : H9 LA with
      | none => rfl
      | some o => rw [(same_new nP0) _ _ e] at nLA; cases nLA) |>.symm
    have nLA9 : H9 LA = none := by
      cases e : H9 LA with
      | none => rfl
      | some o => rw [(same_new nP0) _ _ e] at nLA; cases nLA
    have SL : SA ≠ LA := ne_of_none hSA9 nLA9
    have LA0 : H LA = none := none_but t9 LAa nLA9
    refine ⟨_, rfl, a, CR, dx, _, rfl, sLA _ _ ha9, cr.cls, cr.n6, (by show 5 < 1000; decide), ?_⟩
    rw [pt6]
    have hLA : (upd (upd H9 P0 (.lst [.non])) LA (.lst (((List.range ps.length).map fun j => if j < 0 then some j else (none : Option Nat)).map oV))) LA = some (.lst (((List.range ps.length).map fun j => if j < 0 then some j else (none : Option Nat)).map oV)) := upd_same
    revert sLA hLA
    generalize upd (upd H9 P0 (.lst [.non])) LA (.lst (((List.range ps.length).map fun j => if j < 0 then some j else (none : Option Nat)).map oV)) = H10
    intro sLA hLA
    have bA : Sbut a H9 (upd H10 a (.ins CR dx [("_names", .ref NA), ("_period", .int (lcmOf ps)), ("_clocks", .ref CA), ("_rules", .ref RA), ("_raises", .ref SA), ("_last", .ref LA)])) := (Sbut.of sLA).trans Sbut.put
    have haA : (upd H10 a (.ins CR dx [("_names", .ref NA), ("_period", .int (lcmOf ps)), ("_clocks", .ref CA), ("_rules", .ref RA), ("_raises", .ref SA), ("_last", .ref LA)])) a = some (.ins CR dx [("_names", .ref NA), ("_period", .int (lcmOf ps)), ("_clocks", .ref CA), ("_rules", .ref RA), ("_raises", .ref SA), ("_last", .ref LA)]) := upd_same
    have hLAA : (upd H10 a (.ins CR dx [("_names", .ref NA), ("_period", .int (lcmOf ps)), ("_clocks", .ref CA), ("_rules", .ref RA), ("_raises", .ref SA), ("_last", .ref LA)])) LA = some (.lst (((List.range ps.length).map fun j => if j < 0 then some j else (none : Option Nat)).map oV)) := by rw [upd_ne LAa]; exact hLA
    revert bA haA hLAA
    generalize upd H10 a (.ins CR dx [("_names", .ref NA), ("_period", .int (lcmOf ps)), ("_clocks", .ref CA), ("_rules", .ref RA), ("_raises", .ref SA), ("_last", .ref LA)]) = HA
    intro bA haA hLAA
    have tA := t9.trans bA
    have risA : RisAt HA CR a NA CA RA SA LA ps (riOf ps rs) [] ((List.range ps.length).map fun j => if j < 0 then some j else (none : Option Nat)) :=
      ⟨⟨dx, haA⟩, bA _ _ hNA9 NAa, ⟨cs, bA _ _ hCA9 CAa, rowC9.but bA (row_not rowC9 ha9 (fun p z => by cases z))⟩, ⟨qs, bA _ _ hRA9 RAa, rowU9.but bA (row_not rowU9 ha9 (fun p z => by cases z))⟩,
        ⟨[], bA _ _ hSA9 SAa, rfl, fun _ _ _ z => by cases z⟩, hLAA, SL, ⟨ne_of_none hNA8 nSA, ne_of_none hNA9 nLA9⟩, ⟨ne_of_none hCA8 nSA, ne_of_none hCA9 nLA9⟩, ⟨ne_of_none hRA8 nSA, ne_of_none hRA9 nLA9⟩⟩
    have hflA := row2_but hfl ha tA
    clear sLA hLA hLAA haA rowU9 rowC9 hRA9 hCA9 hNA9 nSA hSA9 ha9 b9 rowU8 rowC8 hRA8 hCA8 hNA8 ha8 b8
    -- the floors
    refine ⟨_, rfl, fl, rfl, enumR_of hflA fun J G wk hG => ?_⟩
    have fSA : fl ≠ SA := row2_ne hfl nSA0
    have fLA : fl ≠ LA := row2_ne hfl LA0
    have keepfl : ∀ H', Sb2 SA LA HA H' → H' fl = HA fl := fun H' sb => by
      rcases hflA with z | z
      · rw [sb _ _ z fSA fLA, z]
      · rw [sb _ _ z fSA fLA, z]
    have flen2 : (fs.map iV).length = ps.length := by rw [List.length_map, flen]
    have repn : ((List.range ps.length).map fun j => if j < 0 then some j else (none : Option Nat)) = List.replicate ps.length none := repl_none ps.length
    rw [repn] at risA
    refine for_it wk (fun i σ H2 => ∃ (v3 v4 : Option V) (rl : List RT) (la : List (Option Nat)), σ = [some (.ref a), some (.ref n), some (.ref fl), v3, v4, none, none, none, none] ∧ Sb2 SA LA HA H2 ∧ RisAt H2 CR a NA CA RA SA LA ps (riOf ps rs) rl la ∧ IniP ps rs fs i rl la) ⟨_, _, _, _, rfl, Sb2.refl, risA, Rise3.Ini.zero⟩ (fun i σ H2 _ ⟨_, _, _, _, _, sb, _⟩ => hG _ (keepfl _ sb)) ?_ ?_
    · rintro i y σ H2 H3 hi ⟨v3, v4, rl, la, rfl, sb, ris, ini⟩ ⟨t, x1, x2, rfl, ht, rfl, h1, h2⟩
      obtain rfl : V.int (i : Nat) = x1 := Option.some.inj h1
      have hip : i < ps.length := by rw [← flen2]; exact hi
      have hif : i < fs.length := by rw [flen]; exact hip
      have ex := List.getElem?_eq_getElem hif
      have ep := List.getElem?_eq_getElem hip
      revert ex
      generalize fs[i] = ox
      intro ex
      obtain rfl : iV ox = x2 := by
        have h2 : (fs.map iV)[i]? = some x2 := h2
        rw [List.getElem?_map, ex] at h2
        exact Option.some.inj h2
      have s3 := same_new (o := .tup [.int (i : Nat), iV ox]) ht
      have ris3 := ris.same s3
      have hT : (upd H2 t (.tup [.int (i : Nat), iV ox])) t = some (.tup [.int (i : Nat), iV ox]) := upd_same
      have sb3 := sb.trans (Sb2.of s3)
      revert ris3 hT sb3
      generalize upd H2 t (.tup [.int (i : Nat), iV ox]) = H3
      intro ris3 hT sb3
      refine ⟨t, _, rfl, SqT.of hT, rfl, _, _, rfl, _, _, rfl, rfl, ?_⟩
      cases ox with
      | none =>
        refine ⟨_, rfl, rfl, _, rfl, iteF ?_⟩
        exact ⟨_, _, rl, la, rfl, sb3, ris3, ini.skip (XO_none ex)⟩
      | some x =>
      refine ⟨_, rfl, rfl, _, rfl, iteT ?_⟩
      obtain ⟨dx, g1⟩ := ris3.at_
      obtain ⟨cs, hcs, rowc⟩ := ris3.ck
      obtain ⟨ss, hss, row⟩ := ris3.ra
      have il : i < cs.length := by rw [rowc.1]; exact hip
      have ec := List.getElem?_eq_getElem il
      have hci := rowc.2 i _ _ ec ep
      have ssl : ss.length = rl.length := row.1
      have lal := ini.ln
      refine ⟨_, rfl, a, CR, dx, _, _, rfl, g1, cr.cls, cr.n5, lk5, SA, _, rfl, .inl (SqL.of hss), _, rfl, a, CR, dx, _, _, rfl, g1, cr.cls, cr.n6, lk6, _, rfl, LA, la.map oV, (i : Nat), i, rfl, rfl, ris3.la, ?_, ?_⟩
      · unfold ixN
        rw [if_pos (by omega)]
        rw [if_pos (by rw [List.length_map]; omega)]
        simp
      have el : (la.map oV).set i (V.int (((ss.map V.ref).length : Nat) : Int)) = (la.set i (some rl.length)).map oV := by
        rw [List.map_set, List.length_map, ssl]
        rfl
      rw [el]
      have sL : Sb2 SA LA H3 (upd H3 LA (.lst ((la.set i (some rl.length)).map oV))) := fun b o e n m => by rw [upd_ne m]; exact e
      have g1' := sL _ _ g1 (ne_of g1 hss (by intro z; cases z)) (ne_of g1 ris3.la (by intro z; cases z))
      have hss' : (upd H3 LA (.lst ((la.set i (some rl.length)).map oV))) SA = some (.lst (ss.map V.ref)) := by rw [upd_ne ris3.d1]; exact hss
      have hcs' := sL _ _ hcs ris3.d3.1 ris3.d3.2
      have hci' := sL _ _ hci (ne_of hci hss (by intro z; cases z)) (ne_of hci ris3.la (by intro z; cases z))
      refine ⟨_, rfl, a, CR, dx, _, _, rfl, g1', cr.cls, cr.n5, lk5, .inl ⟨rfl, _, SqL.of hss'⟩, ?_⟩
      have s0 : 0 < ps[i].2.2 := by have := (dv ps[i] (List.getElem_mem hip)).1; omega
      refine ⟨_, rfl, _, rfl, a, CR, dx, _, _, rfl, g1', cr.cls, cr.n3, lk3, _, rfl, CA, _, _, _, rfl, rfl, SqL.of hcs', atN (i := i) (by rw [List.getElem?_map, ec]; rfl), _, rfl, cs[i], ps[i].2.1, ps[i].2.2, x, rfl, hci', s0, ?_⟩
      rw [up_eq s0]
      refine ⟨(by show 5 ≤ sizeLine; decide), fun q nq => ?_⟩
      have xo : XO ps fs i = some (upv ps[i].2.1 ps[i].2.2 x) := by rw [XO_some ex, fN_at ep, sN_at ep]
      obtain ⟨ris2, sb2⟩ := ris3.push (r := (i, upv ps[i].2.1 ps[i].2.2 x, none, none, 0)) (j := i) hss row nq
      have hss2 := (same_new (o := raV (i, upv ps[i].2.1 ps[i].2.2 x, none, none, 0)) nq) _ _ hss'
      rw [show (HO.tup [V.int (i : Nat), V.int (upv ps[i].2.1 ps[i].2.2 x), V.non, V.non, V.int 0]) = raV (i, upv ps[i].2.1 ps[i].2.2 x, none, none, 0) from rfl]
      refine ⟨SA, _, .ref q, rfl, rfl, hss2, ?_, ?_⟩
      · rw [List.length_map, ssl, sizeLine_eq]
        have := good.few
        have := ini.le
        omega
      refine ⟨_, _, _, _, rfl, sb3.trans sb2, ris2, ini.add hip xo ?_⟩
      rw [fN_at ep, sN_at ep]
      exact upv_on _ _ _
    · rintro σ H2 ⟨v3, v4, rl, la, rfl, sb, ris, ini⟩
      rw [flen2] at ini
      refine k H2 NA CA RA SA LA rl la (fun b o e ne => ?_) nSA0 LA0 ris ini
      have e2 := tA b o e ne
      exact sb b o e2 (ne_of_none e nSA0) (ne_of_none e LA0)
end
end K14
/-! ### the raises back from one -/
namespace Rise3
open Rise Rise2
section
variable {n N : Nat} {f s : Nat → Int} {RA : Nat → Nat → Nat → Int → Prop} {X : Nat → Option Int}
def qb (rl : List RT) (i u : Nat) : RT := ((bk rl i u).bind fun c => rl[c]?).getD (0, 0, none, none, 0)
theorem qb_at {rl : List RT} {i u c : Nat} {q : RT} (e : bk rl i u = some c) (g : rl[c]? = some q) : qb rl i u = q := by
  unfold qb
  rw [e]
  show (rl[c]?).getD _ = _
  rw [g]
  rfl
/-- equal pairs of point and rest -/
theorem cd_eq {rl : List RT} (h0 : 0 < N) (oks : ∀ p, p < n → 0 < s p ∧ s p ∣ (N : Int)) (h : Raised n f s RA rl) {i c : Nat} {r q : RT} (e : rl[i]? = some r) (g : rl[c]? = some q) (same : cd N f s q = cd N f s r) : q.1 = r.1 ∧ q.2.1 % (N : Int) = r.2.1 % (N : Int) := by
  have pq := h.pt c q g
  have pr := h.pt i r e
  exact code_inj h0 (oks _ pq.1).1 (oks _ pq.1).2 (oks _ pr.1).1 (oks _ pr.1).2 pq.2 pr.2 same
/-- as long as the pairs back from a raise are apart, there is a cause -/
theorem apart_off {rl : List RT} (h0 : 0 < N) (oks : ∀ p, p < n → 0 < s p ∧ s p ∣ (N : Int)) (h : Raised n f s RA rl) {i : Nat} {r : RT} (e : rl[i]? = some r) {m : Nat} (le : m ≤ r.2.2.2.2 + 1)
    (ap : ∀ u v, u < v → v < m → ¬ ((qb rl i u).1 = (qb rl i v).1 ∧ (qb rl i u).2.1 % (N : Int) = (qb rl i v).2.1 % (N : Int))) : m ≤ off N s n := by
  have at_ : ∀ t, t < m → ∃ c : Nat, rl[c]? = some (qb rl i t) := fun t ht => by
    obtain ⟨c, q, b1, b2, _⟩ := bk_at h t i r e (by omega)
    rw [qb_at b1 b2]
    exact ⟨c, b2⟩
  refine few_apart (i := i) h0 oks h at_ fun t u lt hu same => ?_
  obtain ⟨c1, g1⟩ := at_ t (by omega)
  obtain ⟨c2, g2⟩ := at_ u hu
  exact ap t u lt hu (cd_eq h0 oks h g2 g1 same)
end
end Rise3
namespace K14
open PySem PySem.Spec L2 Rt
open PyProof.Rows hiding St

abbrev sLastR : Stmt := inClass (top 25) 6
/-- the pair of a raise, as the program keeps it -/
def keyR (N : Nat) (q : RT) : List Key := [.inl (q.1 : Int), .inl (q.2.1 % (N : Int))]
theorem keyR_eq {N : Nat} {q r : RT} (h : q.1 = r.1 ∧ q.2.1 % (N : Int) = r.2.1 % (N : Int)) : keyR N q = keyR N r := by
  unfold keyR
  rw [h.1, h.2]
theorem keyR_of {N : Nat} {q r : RT} (h : keyR N q = keyR N r) : q.1 = r.1 ∧ q.2.1 % (N : Int) = r.2.1 % (N : Int) := by
  unfold keyR at h
  injection h with a b
  injection b with b c
  injection a with a
  injection b with b
  exact ⟨by omega, b⟩
/-- what is met on the way back -/
def metL (N : Nat) (rl : List RT) (i t : Nat) : List (List Key × V) := (List.range t).map fun u => (keyR N (Rise3.qb rl i u), V.int (u : Nat))
def ruleL (rl : List RT) (i t : Nat) : List V := (List.range t).map fun u => oV (Rise3.qb rl i u).2.2.1
theorem metL_val {N : Nat} {rl : List RT} {i t : Nat} {k : List Key} {v : V} (h : valV (metL N rl i t) k = some v) : ∃ u, u < t ∧ k = keyR N (Rise3.qb rl i u) ∧ v = .int (u : Nat) := by
  unfold valV at h
  cases e : (metL N rl i t).find? (fun kv => decide (kv.1 = k)) with
  | none => rw [e] at h; cases h
  | some x =>
    rw [e] at h
    have h : some x.2 = some v := h
    cases h
    have m := List.mem_of_find?_eq_some e
    have d := List.find?_some e
    obtain ⟨u, hu, rfl⟩ := List.mem_map.mp m
    exact ⟨u, List.mem_range.mp hu, (of_decide_eq_true d).symm, rfl⟩
theorem metL_none {N : Nat} {rl : List RT} {i t : Nat} {k : List Key} (h : valV (metL N rl i t) k = none) : ∀ u, u < t → keyR N (Rise3.qb rl i u) ≠ k := fun u hu e => by
  unfold valV at h
  cases z : (metL N rl i t).find? (fun kv => decide (kv.1 = k)) with
  | some x => rw [z] at h; cases h
  | none =>
    have := List.find?_eq_none.mp z (keyR N (Rise3.qb rl i u), V.int (u : Nat)) (List.mem_map.mpr ⟨u, List.mem_range.mpr hu, rfl⟩)
    exact this (decide_eq_true e)
theorem metL_put {N : Nat} {rl : List RT} {i t : Nat} (h : ∀ u, u < t → keyR N (Rise3.qb rl i u) ≠ keyR N (Rise3.qb rl i t)) : putK (metL N rl i t) (keyR N (Rise3.qb rl i t)) (.int (t : Nat)) = metL N rl i (t + 1) := by
  unfold putK
  rw [if_neg]
  · unfold metL
    rw [List.range_succ, List.map_append]
    rfl
  · intro z
    obtain ⟨x, m, d⟩ := List.any_eq_true.mp z
    obtain ⟨u, hu, rfl⟩ := List.mem_map.mp m
    exact h u (List.mem_range.mp hu) (of_decide_eq_true d)
def spLastR (CR : Addr) : Sp := fun vs H Q _ => ∃ (a NA CA RA SA LA : Addr) (ps : List Pt) (rs : List Rl) (rl : List RT) (la : List (Option Nat)) (M : Nat) (r : RT), vs = [.ref a] ∧ RisAt H CR a NA CA RA SA LA ps (riOf ps rs) rl la ∧ Fits ps rs M ∧ Rise3.Raised ps.length (fN ps) (sN ps) (RuleAt ps rs) rl ∧
  rl[rl.length - 1]? = some r ∧ offOf ps ≤ r.2.2.2.2 ∧ rl.length ≤ 1000000 ∧
  ∀ (t tr : Addr) (u v : Nat) (nm : Str) (H' : Hp), Same H H' → u < v → v ≤ r.2.2.2.2 → v ≤ offOf ps → keyR (lcmOf ps) (Rise3.qb rl (rl.length - 1) u) = keyR (lcmOf ps) (Rise3.qb rl (rl.length - 1) v) → (namesOf ps)[(Rise3.qb rl (rl.length - 1) v).1]? = some nm →
    H' t = some (.tup [.str nm, .int (Rise3.qb rl (rl.length - 1) v).2.1, .ref tr]) → H' tr = some (.tup (cutV (ruleL rl (rl.length - 1) v) (some (u : Int)) none).reverse) → Q (.ref t) H'
section
variable {P : Program} {w : World} {K : PySem.W.Frag} {mg : Str → Option Value} {base : Heap} {f C CR : Addr} {fd : FuncData}

theorem scLastR : FnScope ["self", "rules", "met", "at", "point", "number", "rule", "cause", "_", "rest"] ["self"] (defScope sLastR) := ⟨rfl, rfl, rfl, by decide +kernel, rfl, by decide +kernel, by decide +kernel⟩
def LastW (H : Hp) (a RL MT : Addr) (ps : List Pt) (rl : List RT) (last : Nat) (r : RT) (mm : Nat) (σ : St) (H2 : Hp) : Prop := ∃ (v4 v5 v6 v7 v8 v9 : Option V) (t c : Nat) (q : RT), σ = [some (.ref a), some (.ref RL), some (.ref MT), some (.int (c : Nat)), v4, v5, v6, v7, v8, v9] ∧ Same H H2 ∧
  H2 RL = some (.lst (ruleL rl last t)) ∧ H2 MT = some (.dT (metL (lcmOf ps) rl last t)) ∧ Rise3.bk rl last t = some c ∧ rl[c]? = some q ∧ q.2.2.2.2 + t = r.2.2.2.2 ∧
  (∀ u v, u < v → v < t → ¬ ((Rise3.qb rl last u).1 = (Rise3.qb rl last v).1 ∧ (Rise3.qb rl last u).2.1 % (lcmOf ps : Int) = (Rise3.qb rl last v).2.1 % (lcmOf ps : Int))) ∧ mm = offOf ps - t ∧ t ≤ offOf ps
theorem ok_lastR (F : Fun K "_last_ring" "Rising._last_ring" sLastR f fd) (T : Wds mg) (cr : ClsR K CR) : FnOk P w K mg base CX0 1 f fd ["self"] (spLastR CR) := by
  refine F.ok scLastR (fun vs H Q E h => ?_) (fun cdv A outer s H vs Q E hr h => ?_)
  · obtain ⟨a, NA, CA, RA, SA, LA, ps, rs, rl, la, M, r, rfl, _⟩ := h
    rfl
  · obtain ⟨a, NA, CA, RA, SA, LA, ps, rs, rl, la, M, r, rfl, ris, fit, rd, hr0, hoff, few, k⟩ := h
    have hu := hu_of hr
    refine ⟨_, (pss_cons (ps_set (i := 1) scLastR.nd rfl (.inl rfl) (pe_lst pa_nil))
      (pss_cons (ps_set (i := 2) scLastR.nd rfl (.inl rfl) pe_dnewT)
      (pss_cons (ps_set (i := 3) scLastR.nd rfl (.inl rfl) (pe_op op_sub (pe_callB call_len_seq (by rfl) T.zlen (by decide +kernel) (pa_cons (pe_fld (pv 0) (by rfl)) pa_nil)) pe_int))
      (pss_one (ps_while PassesOwn.never (pt_val pe_bl)
        (pss_cons (ps_asg (pe_ix ix_list (pe_fld (pv 0) (by rfl)) (pv 3) (fun _ _ => rfl)) (pg_tup (by rfl) (pgs_cons (pg_name (i := 4) scLastR.nd rfl (.inl rfl)) (pgs_cons (pg_name (i := 5) scLastR.nd rfl (.inl rfl)) (pgs_cons (pg_name (i := 6) scLastR.nd rfl (.inl rfl)) (pgs_cons (pg_name (i := 7) scLastR.nd rfl (.inl rfl)) (pgs_cons (pg_name (i := 8) scLastR.nd rfl (.inl rfl)) pgs_nil)))))))
        (pss_cons (ps_set (i := 9) scLastR.nd rfl (.inl rfl) (pe_tup (pa_cons (pv 4) (pa_cons (pe_op op_mod (pv 5) (pe_fld (pv 0) (by rfl))) pa_nil))))
        (pss_cons (ps_if (pt_cmp (pc_din hu (pv 9) (pv 2))) (pss_one (ps_ret (pe_tup (pa_cons (pe_ix ix_list (pe_fld (pv 0) (by rfl)) (pv 4) (fun _ _ => rfl)) (pa_cons (pv 5) (pa_cons (pe_callTy call_tuple_of (by rfl) T.ztuple (by decide +kernel) (pa_cons (pe_revL (pe_slice sl_list (pv 1) (po_some (pe_dget hu (pv 2) (pv 9) (fun _ _ => rfl))) po_none)) pa_nil)) pa_nil)))))) pss_nil)
        (pss_cons (ps_dput hu (pv 2) (pv 9) (pe_callB call_len_seq (by rfl) T.zlen (by decide +kernel) (pa_cons (pv 1) pa_nil)) rfl)
        (pss_cons (ps_expr (pe_bm PySem.F.plainAttrs_list PySem.F.slot_list_append PySem.F.type_list_append mt_append (pv 1) (pa_cons (pv 6) pa_nil)))
        (pss_one (ps_set (i := 3) scLastR.nd rfl (.inl rfl) (pv 7))))))))))))), ?_⟩
    obtain ⟨dx, h1⟩ := ris.at_
    obtain ⟨ss, hss, row⟩ := ris.ra
    refine ⟨Nat.zero_le _, fun RL nRL => ?_⟩
    refine fun MT nMT => ?_
    have sRL := same_new (o := .lst []) nRL
    have sMT := sRL.trans (same_new (o := .dT []) nMT)
    have hRL : (upd (upd H RL (.lst [])) MT (.dT [])) RL = some (.lst []) := same_new (o := .dT []) nMT _ _ upd_same
    have hMT : (upd (upd H RL (.lst [])) MT (.dT [])) MT = some (.dT []) := upd_same
    have RM : RL ≠ MT := ne_of_none upd_same nMT
    have nMT0 : H MT = none := none_same sRL nMT
    revert sMT hRL hMT
    generalize upd (upd H RL (.lst [])) MT (.dT []) = H1
    intro sMT hRL hMT
    clear sRL nMT
    refine ⟨_, rfl, a, CR, dx, _, _, rfl, sMT _ _ h1, cr.cls, cr.n5, lk5, SA, _, rfl, .inl (SqL.of (sMT _ _ hss)), ?_⟩
    refine ⟨_, _, rfl, rfl, ?_⟩
    have pos : 0 < rl.length := by have := (List.getElem?_eq_some_iff.mp hr0).1; omega
    have ssl : ss.length = rl.length := row.1
    have z0 : (((ss.map V.ref).length : Nat) : Int) - 1 = ((rl.length - 1 : Nat) : Int) := by rw [List.length_map, ssl]; omega
    have N0 := fit.N0
    generalize el : rl.length - 1 = last at hr0 k z0
    refine ⟨LastW H a RL MT ps rl last r, ⟨offOf ps, none, none, none, none, none, none, 0, last, r, by rw [← z0]; rfl, sMT, hRL, hMT, rfl, hr0, rfl, fun u v _ lt => absurd lt (Nat.not_lt_zero v), (Nat.sub_zero _).symm, Nat.zero_le _⟩, ?_⟩
    rintro mm σ H2 ⟨v4, v5, v6, v7, v8, v9, t, c, q, rfl, s2, g1, g2, hb, hq, hh, ap, emm, tle⟩
    have h2 := s2 _ _ h1
    have hss2 := s2 _ _ hss
    have cl : c < ss.length := by rw [ssl]; exact (List.getElem?_eq_some_iff.mp hq).1
    have ec := List.getElem?_eq_getElem cl
    have hsc := s2 _ _ (row.2 c _ _ ec hq)
    have RLM : RL ≠ MT := RM
    have qbt : Rise3.qb rl last t = q := Rise3.qb_at hb hq
    refine ⟨true, rfl, ?_⟩
    refine iteT ?_
    refine ⟨fun σ' H' => ∃ m', m' < mm ∧ LastW H a RL MT ps rl last r m' σ' H', fun σ' H' z => z, ?_⟩
    refine ⟨_, rfl, a, CR, dx, _, _, rfl, h2, cr.cls, cr.n5, lk5, _, rfl, SA, _, _, _, rfl, rfl, SqL.of hss2, atN (i := c) (by rw [List.getElem?_map, ec]; rfl), ss[c], _, rfl, SqT.of hsc, rfl, _, _, rfl, _, _, rfl, _, _, rfl, _, _, rfl, _, _, rfl, rfl, ?_⟩
    refine ⟨_, rfl, _, rfl, _, rfl, a, CR, dx, _, _, rfl, h2, cr.cls, cr.n2, lk2, _, _, rfl, rfl, (by omega : (0 : Int) < (lcmOf ps : Nat)), ?_⟩
    refine ⟨(by show 2 ≤ sizeLine; decide), fun B nB => ?_⟩
    have s3 := same_new (o := .tup [.int (q.1 : Int), .int (q.2.1 % (lcmOf ps : Int))]) nB
    have hB : (upd H2 B (.tup [.int (q.1 : Int), .int (q.2.1 % (lcmOf ps : Int))])) B = some (.tup ((keyR (lcmOf ps) q).map kV)) := upd_same
    revert s3 hB
    generalize upd H2 B (.tup [.int (q.1 : Int), .int (q.2.1 % (lcmOf ps : Int))]) = H3
    intro s3 hB
    have s03 := s2.trans s3
    have g13 := s3 _ _ g1
    have g23 := s3 _ _ g2
    have BR : RL ≠ B := ne_of_none g1 nB
    have BM : MT ≠ B := ne_of_none g2 nB
    refine ⟨_, rfl, _, rfl, MT, _, rfl, DGet.t g23 hB, _, rfl, ?_⟩
    cases hv : valV (metL (lcmOf ps) rl last t) (keyR (lcmOf ps) q) with
    | some v =>
      obtain ⟨u, hu, ke, rfl⟩ := metL_val hv
      refine iteT ?_
      have dg : DGet H3 MT (.ref B) (some (.int (u : Nat))) := by
        have := DGet.t g23 hB
        rwa [hv] at this
      have pl : q.1 < ps.length := (rd.pt c q hq).1
      have pl2 : q.1 < (namesOf ps).length := by rw [List.length_map]; exact pl
      have en := List.getElem?_eq_getElem pl2
      refine ⟨_, rfl, a, CR, dx, _, _, rfl, s03 _ _ h1, cr.cls, cr.n1, lk1, _, rfl, NA, _, _, _, rfl, rfl, SqL.of (s03 _ _ ris.nm), atN (i := q.1) (by rw [List.getElem?_map, en]; rfl), ?_⟩
      refine ⟨_, rfl, ?_⟩
      refine ⟨_, rfl, _, rfl, _, rfl, MT, _, rfl, dg, (u : Int), rfl, RL, _, rfl, SqL.of g13, fun p1 n1 => ?_⟩
      have s4 := s03.trans (same_new (o := .lst (cutV (ruleL rl last t) (some (u : Int)) none)) n1)
      refine ⟨p1, _, rfl, SqL.of upd_same, fun p2 n2 => ?_⟩
      have s5 := s4.trans (same_new (o := .lst (cutV (ruleL rl last t) (some (u : Int)) none).reverse) n2)
      refine ⟨p2, _, rfl, .inl ⟨SqL.of upd_same, fun tr ntr => ?_⟩⟩
      have s6 := s5.trans (same_new (o := .tup (cutV (ruleL rl last t) (some (u : Int)) none).reverse) ntr)
      refine ⟨(by show 3 ≤ sizeLine; decide), fun tt ntt => ?_⟩
      have s7 := s6.trans (same_new (o := .tup [.str (namesOf ps)[q.1], .int q.2.1, .ref tr]) ntt)
      refine k tt tr u t (namesOf ps)[q.1] _ s7 hu (by omega) tle (by rw [qbt]; exact ke.symm) (by rw [qbt]; exact en) (by rw [qbt]; exact upd_same) ?_
      exact same_new ntt _ _ upd_same
    | none =>
      refine iteF ?_
      have nm := metL_none hv
      have ap' : ∀ u v, u < v → v < t + 1 → ¬ ((Rise3.qb rl last u).1 = (Rise3.qb rl last v).1 ∧ (Rise3.qb rl last u).2.1 % (lcmOf ps : Int) = (Rise3.qb rl last v).2.1 % (lcmOf ps : Int)) := fun u v uv vt z => by
        by_cases e : v = t
        · subst e
          rw [qbt] at z
          exact nm u uv (keyR_eq z)
        · exact ap u v uv (by omega) z
      have le1 : t + 1 ≤ offOf ps := Rise3.apart_off (n := ps.length) (f := fN ps) (s := sN ps) N0 fit.sd rd hr0 (m := t + 1) (by omega) ap'
      rcases rd.cs c q hq with ⟨_, _, z⟩ | ⟨kk, c2, q2, l2, b1, b2, b3, b4, b5, b6, b7⟩
      · omega
      have len : (ruleL rl last t).length = t := by unfold ruleL; rw [List.length_map, List.length_range]
      have lenM : (metL (lcmOf ps) rl last t).length = t := by unfold metL; rw [List.length_map, List.length_range]
      have tl : t ≤ 1000000 := by
        obtain ⟨c0, q0, _, d2, d3, d4⟩ := Rise3.bk_at rd t last r hr0 (by omega)
        have := (List.getElem?_eq_some_iff.mp hr0).1
        omega
      refine ⟨_, rfl, RL, _, rfl, .inl (SqL.of g13), ?_⟩
      refine ⟨_, rfl, _, rfl, MT, _, rfl, DPut.t g23 hB (by rw [lenM, sizeLine_eq]; omega), ?_⟩
      have ep : putK (metL (lcmOf ps) rl last t) (keyR (lcmOf ps) q) (.int (((ruleL rl last t).length : Nat) : Int)) = metL (lcmOf ps) rl last (t + 1) := by
        rw [len, ← qbt]
        exact metL_put fun u hu => by rw [qbt]; exact nm u hu
      rw [ep]
      have s8 : Same H (upd H3 MT (.dT (metL (lcmOf ps) rl last (t + 1)))) := fun b o e => by rw [upd_ne (ne_of_none e nMT0)]; exact s03 b o e
      have g8 : (upd H3 MT (.dT (metL (lcmOf ps) rl last (t + 1)))) RL = some (.lst (ruleL rl last t)) := by rw [upd_ne RLM]; exact g13
      have g9 : (upd H3 MT (.dT (metL (lcmOf ps) rl last (t + 1)))) MT = some (.dT (metL (lcmOf ps) rl last (t + 1))) := upd_same
      revert s8 g8 g9
      generalize upd H3 MT (.dT (metL (lcmOf ps) rl last (t + 1))) = H8
      intro s8 g8 g9
      refine ⟨_, rfl, .inl ⟨rfl, _, SqL.of g8⟩, _, rfl, RL, _, _, rfl, rfl, g8, by rw [len, sizeLine_eq]; omega, ?_⟩
      have er : ruleL rl last t ++ [oV q.2.2.1] = ruleL rl last (t + 1) := by
        unfold ruleL
        rw [List.range_succ, List.map_append, ← qbt]
        rfl
      refine ⟨_, rfl, ?_⟩
      refine ⟨offOf ps - (t + 1), by omega, _, _, _, _, _, _, t + 1, c2, q2, by rw [b2]; rfl, fun b o e => by rw [upd_ne (ne_of_none e nRL)]; exact s8 b o e, by rw [upd_same, er], by rw [upd_ne RLM.symm]; exact g9, Rise3.bk_succ t last c c2 q hb hq b2, b4, by omega, ap', rfl, le1⟩
end
end K14
namespace K14
open PySem PySem.Spec L2 Rt
open PyProof.Rows hiding St
abbrev StP (ps : List Pt) (rs : List Rl) (X : Nat → Option Int) : List RT → List (Option Nat) → Nat → Nat → Prop := Rise3.St3 ps.length (fN ps) (sN ps) (RuleAt ps rs) X
abbrev ClosedP (ps : List Pt) (rs : List Rl) (Z : Nat → Option Int) : Prop := Rise3.Closed (fN ps) (sN ps) (RuleAt ps rs) Z
abbrev ForcedP (ps : List Pt) (rs : List Rl) (X Y : Nat → Option Int) : Prop := Rise3.Forced ps.length (fN ps) (sN ps) (RuleAt ps rs) X Y
/-- no row with holes is above the starts and keeps clocks and rules -/
def NoRow (ps : List Pt) (rs : List Rl) (X : Nat → Option Int) : Prop := ∀ Z, ClosedP ps rs Z → (∀ p x, p < ps.length → X p = some x → ∃ z, Z p = some z ∧ x ≤ z) → False
/-- a ring as the program tells it -/
def RingT (H : Hp) (t : Addr) (ps : List Pt) (rs : List Rl) (X : Nat → Option Int) : Prop := ∃ (rl : List RT) (r : RT) (u v : Nat) (nm : Str) (tr : Addr), Rise3.Raised ps.length (fN ps) (sN ps) (RuleAt ps rs) rl ∧ (∀ (j : Nat) (q : RT), rl[j]? = some q → q.2.2.2.2 = 0 → X q.1 = some q.2.1) ∧
  rl[rl.length - 1]? = some r ∧ u < v ∧ v ≤ r.2.2.2.2 ∧ v ≤ offOf ps ∧ keyR (lcmOf ps) (Rise3.qb rl (rl.length - 1) u) = keyR (lcmOf ps) (Rise3.qb rl (rl.length - 1) v) ∧ (namesOf ps)[(Rise3.qb rl (rl.length - 1) v).1]? = some nm ∧
  H t = some (.tup [.str nm, .int (Rise3.qb rl (rl.length - 1) v).2.1, .ref tr]) ∧ H tr = some (.tup (cutV (ruleL rl (rl.length - 1) v) (some (u : Int)) none).reverse)
/-- every rule is kept by the last raises -/
def AllOk (ps : List Pt) (rs : List Rl) (rl : List RT) (la : List (Option Nat)) (t : Nat) : Prop := ∀ (k i j : Nat) (l : Int), RuleAt ps rs k i j l → k < t → ∀ (a : Nat) (r : RT), la[i]? = some (some a) → rl[a]? = some r → ∃ (b : Nat) (q : RT), la[j]? = some (some b) ∧ rl[b]? = some q ∧ r.2.1 + l ≤ q.2.1
def spFinO (CR : Addr) : Sp := fun vs H Q _ => ∃ (a NA CA RA SA LA : Addr) (ps : List Pt) (rs : List Rl) (rl : List RT) (la : List (Option Nat)) (X : Nat → Option Int) (M : Nat), vs = [.ref a] ∧ RisAt H CR a NA CA RA SA LA ps (riOf ps rs) rl la ∧ Fits ps rs M ∧ StP ps rs X rl la 0 0 ∧ rl.length + (offOf ps + 2) * rs.length ≤ 900000 ∧
  (∀ (H' : Hp) (rl' : List RT) (la' : List (Option Nat)), Sb2 SA LA H H' → RisAt H' CR a NA CA RA SA LA ps (riOf ps rs) rl' la' → InR la' rl' → la'.length = ps.length → ForcedP ps rs X (Rise3.numO rl' la') → Q .non H') ∧
  (∀ (H' : Hp) (t : Addr), Sb2 SA LA H H' → NoRow ps rs X → RingT H' t ps rs X → Q (.ref t) H')
section
variable {P : Program} {w : World} {K : PySem.W.Frag} {mg : Str → Option Value} {base : Heap} {f C CR : Addr} {fd : FuncData}
def FinWO (H : Hp) (CR a NA CA RA SA LA : Addr) (ps : List Pt) (rs : List Rl) (rl : List RT) (X : Nat → Option Int) (mm : Nat) (σ : St) (H2 : Hp) : Prop := ∃ (v : Option V) (m : Nat) (g : Bool) (rl2 : List RT) (la2 : List (Option Nat)), σ = [some (.ref a), some (.int (offOf ps : Nat)), some (.bl g), v, none] ∧ Sb2 SA LA H H2 ∧
  RisAt H2 CR a NA CA RA SA LA ps (riOf ps rs) rl2 la2 ∧ StP ps rs X rl2 la2 m 0 ∧ rl2.length ≤ rl.length + m * rs.length ∧ (g = true → m ≤ offOf ps ∧ mm = offOf ps + 1 - m) ∧ (g = false → AllOk ps rs rl2 la2 rs.length)

theorem ok_finO (F : Fun K "finish" "Rising.finish" sFin f fd) (T : Wds mg) (zrange : mg "range" = none) (zsum : mg "sum" = none) (cr : ClsR K CR) (mFol : Md P w K mg base 2 CR "_follow" (spFolO CR)) (mLast : Md P w K mg base 1 CR "_last_ring" (spLastR CR)) : FnOk P w K mg base CX0 3 f fd ["self"] (spFinO CR) := by
  refine F.ok scFin (fun vs H Q E h => ?_) (fun cdv A outer s H vs Q E hr h => ?_)
  · obtain ⟨a, NA, CA, RA, SA, LA, ps, rs, rl, la, X, M, rfl, _⟩ := h
    rfl
  · obtain ⟨a, NA, CA, RA, SA, LA, ps, rs, rl, la, X, M, rfl, ris, fit, st0, few, kF, kR⟩ := h
    refine ⟨_, (pss_cons (ps_set (i := 1) scFin.nd rfl (.inl rfl) (pe_callB (cr_sum (by rfl)) (by rfl) zsum (by decide +kernel) (pa_cons (pe_lc (own := [("clock", 4)]) (by rfl) scFin.nd (pi_list (pe_fld (pv 0) (by rfl))) (blkOk_by (N := ["self", "rests", "going", "rule", "clock"]) (sc := defScope sFin) (by decide +kernel)) (fun _ _ _ _ _ => (pg_name (i := 4) scFin.nd rfl (.inl rfl))) (fun _ _ _ _ _ => pts_nil) (fun _ _ _ _ _ => (pe_op op_fdivW (pe_fldK (K := K) rfl (pv 0) (by rfl)) (pe_ix (ix_tup : IxR _ (rIxT K)) (pv 4) pe_int (fun _ _ => rfl))))) pa_nil)))
      (pss_cons (ps_set (i := 2) scFin.nd rfl (.inl rfl) pe_bl)
      (pss_cons (ps_while PassesOwn.never (pt_val (pv 2))
        (pss_cons (ps_set (i := 2) scFin.nd rfl (.inl rfl) pe_bl)
        (pss_one (ps_for PassesOwn.never rfl (pi_range1 (by rfl) zrange (pa_cons (pe_callB call_len_seq (by rfl) T.zlen (by decide +kernel) (pa_cons (pe_fld (pv 0) (by rfl)) pa_nil)) pa_nil)) (pg_name (i := 3) scFin.nd rfl (.inl rfl))
          (pss_one (ps_if (pt_val (pe_m cr.cls mFol hr (by decide) (pv 0) (pa_cons (pv 3) pa_nil))) (pss_cons (ps_set (i := 2) scFin.nd rfl (.inl rfl) pe_bl)
            (pss_one (ps_if (pt_cmpR op_ge (pe_ix ix_tup (pe_ix ix_list (pe_fld (pv 0) (by rfl)) (pe_un un_neg pe_int) (fun _ _ => rfl)) pe_int (fun _ _ => rfl)) (pv 1) (nomark _)) (pss_one (ps_ret (pe_m0' cr.cls mLast hr (by decide) (pv 0)))) pss_nil))) pss_nil))))))
      (pss_one (ps_ret pe_non))))), ?_⟩
    obtain ⟨dx, h1⟩ := ris.at_
    obtain ⟨cs, hcs, rowc⟩ := ris.ck
    have N0 := fit.N0
    have Nlt := fit.Nlt
    refine ⟨_, rfl, a, CR, dx, _, _, rfl, h1, cr.cls, cr.n3, lk3, CA, rfl, ⟨_, SqL.of hcs⟩, fun D nD => ?_⟩
    refine lc_it walk_list (fun i H1 => Same H H1 ∧ H1 D = some (.lst (((ps.take i).map fun p => (lcmOf ps : Int) / p.2.2).map V.int))) ⟨same_new nD, upd_same⟩ (fun i H1 _ z => SqL.of (z.1 _ _ hcs)) ?_ ?_
    · rintro i y H1 H2 hi ⟨s1, hD⟩ ⟨rfl, hy⟩
      have hi' : i < cs.length := by rw [List.length_map] at hi; exact hi
      have hip : i < ps.length := by rw [← rowc.1]; exact hi'
      have ep := List.getElem?_eq_getElem hip
      obtain rfl : V.ref cs[i] = y := by
        rw [List.getElem?_map, List.getElem?_eq_getElem hi'] at hy
        exact Option.some.inj hy
      have pc := s1 _ _ (rowc.2 i _ _ (List.getElem?_eq_getElem hi') ep)
      obtain ⟨k1, k2⟩ := fit.good.ok _ (List.getElem_mem hip)
      refine ⟨rfl, _, rfl, a, CR, dx, _, _, rfl, s1 _ _ h1, cr.cls, cr.n2, lk2, _, rfl, cs[i], _, 1, _, rfl, rfl, SqT.of pc, rfl, _, _, rfl, rfl, wide_div (b := 60) (by omega) (by omega) (by omega) (by omega), ?_⟩
      refine ⟨_, hD, small1000 (by rw [List.length_map, List.length_map, List.length_take]; have := fit.good.few; omega), fun b o z => by rw [upd_ne (ne_of_none z nD)]; exact s1 b o z, ?_⟩
      rw [upd_same, List.take_succ, ep, List.map_append, List.map_append]
      rfl
    rintro H1 ⟨s1, hD⟩
    rw [List.take_of_length_le (by rw [List.length_map, rowc.1]; exact Nat.le_refl _)] at hD
    refine ⟨D, _, rfl, SqL.of hD, ?_⟩
    rw [off_sum fit]
    have ris1 := ris.same s1
    have sb1 : Sb2 SA LA H H1 := Sb2.of s1
    refine ⟨FinWO H CR a NA CA RA SA LA ps rs rl X, ⟨offOf ps + 1, none, 0, true, rl, la, rfl, sb1, ris1, st0, by omega, fun _ => ⟨Nat.zero_le _, rfl⟩, fun z => nomatch z⟩, ?_⟩
    rintro mm σ H2 ⟨v, m, g, rl2, la2, rfl, sb2, ris2, st2, few2, hg, hk⟩
    refine ⟨_, rfl, g, rfl, ?_⟩
    cases g with
    | false =>
      show Q _ _
      exact kF H2 rl2 la2 sb2 ris2 (fun p i e => st2.inr p i e) st2.ln (st2.forced fit.sd fun k i j l r => hk rfl k i j l r r.ends.2.2)
    | true =>
      obtain ⟨hm, emm⟩ := hg rfl
      rw [if_pos rfl]
      refine ⟨fun σ' H' => ∃ m', m' < mm ∧ FinWO H CR a NA CA RA SA LA ps rs rl X m' σ' H', fun σ' H' z => z, ?_⟩
      obtain ⟨dx2, g1⟩ := ris2.at_
      obtain ⟨bs, hbs, rowb⟩ := ris2.ru
      have bl : (bs.map V.ref).length = rs.length := by rw [List.length_map, rowb.1]; exact List.length_map ..
      refine ⟨_, rfl, a, CR, dx2, _, _, rfl, g1, cr.cls, cr.n4, lk4, RA, _, rfl, .inl (SqL.of hbs), (((bs.map V.ref).length : Nat) : Int), rfl, by omega, by have := fit.good.fewR; omega, ?_⟩
      rw [bl]
      refine for_range (lo := 0) (n := rs.length) (fun t σ H3 => ∃ (v : Option V) (g : Bool) (rl3 : List RT) (la3 : List (Option Nat)), σ = [some (.ref a), some (.int (offOf ps : Nat)), some (.bl g), v, none] ∧ Sb2 SA LA H H3 ∧
        RisAt H3 CR a NA CA RA SA LA ps (riOf ps rs) rl3 la3 ∧ StP ps rs X rl3 la3 m t ∧ rl3.length ≤ rl.length + m * rs.length + t ∧ (g = true → m + 2 ≤ offOf ps) ∧ (g = false → AllOk ps rs rl3 la3 t))
        ⟨_, _, rl2, la2, rfl, sb2, ris2, st2, by omega, fun z => (nomatch z), fun _ k i j l _ lt => absurd lt (Nat.not_lt_zero k)⟩ ?_ ?_
      · rintro t σ H3 ht ⟨v, g, rl3, la3, rfl, sb3, ris3, st3, few3, hg3, hk3⟩
        have et := List.getElem?_eq_getElem ht
        obtain ⟨m1', m2'⟩ := fit.good.ends _ (List.getElem_mem ht)
        have r : RuleAt ps rs t (idx ps rs[t].1) (idx ps rs[t].2.1) rs[t].2.2 := ⟨rs[t], et, idx_at m1', idx_at m2', rfl⟩
        have uq : ∀ i' j' l', RuleAt ps rs t i' j' l' → i' = idx ps rs[t].1 ∧ j' = idx ps rs[t].2.1 ∧ l' = rs[t].2.2 := fun i' j' l' r' => r.uniq fit.good r'
        obtain ⟨hi, hj, _⟩ := r.ends
        have ej := List.getElem?_eq_getElem hj
        have sj := (fit.sd _ hj).1
        rw [sN_at ej] at sj
        obtain ⟨dx3, g3⟩ := ris3.at_
        have few4 : rl3.length ≤ 900000 := by
          have z : m * rs.length ≤ offOf ps * rs.length := Nat.mul_le_mul_right _ hm
          rw [Nat.add_mul] at few
          omega
        refine ⟨_, rfl, a, dx3, _, rfl, g3, lk_no (by decide +kernel) (by decide +kernel) (by decide +kernel) (by decide +kernel) (by decide +kernel) (by decide +kernel), _, rfl, a, NA, CA, RA, SA, LA, ps, riOf ps rs, rl3, la3, t, idx ps rs[t].1, idx ps rs[t].2.1, rs[t].2.2, ps[idx ps rs[t].2.1], by rw [Int.zero_add]; rfl, ris3, (riOf_at fit.good).mpr r, by rw [st3.ln]; exact hi, by rw [st3.ln]; exact hj, fun p i e => st3.inr p i e, ej, sj, by omega, fun le => ?_, fun ci r1 a1 a2 lt H4 s4 ris4 => ?_⟩
        · refine ⟨_, rfl, iteF ?_⟩
          have ok : ∀ (a : Nat) (r : RT), la3[idx ps rs[t].1]? = some (some a) → rl3[a]? = some r → ∃ (b : Nat) (q : RT), la3[idx ps rs[t].2.1]? = some (some b) ∧ rl3[b]? = some q ∧ r.2.1 + rs[t].2.2 ≤ q.2.1 := fun a' r' e1 e2 => by
            obtain ⟨b, q, f1, f2, f3⟩ := le a' r' e1 e2
            have := upv_le (f := ps[idx ps rs[t].2.1].2.1) (x := r'.2.1 + rs[t].2.2) sj
            exact ⟨b, q, f1, f2, by omega⟩
          refine ⟨_, g, rl3, la3, rfl, sb3, ris3, st3.still uq ok, by omega, hg3, fun z k i j l r' lt => ?_⟩
          by_cases e : k = t
          · subst e
            obtain ⟨rfl, rfl, rfl⟩ := uq _ _ _ r'
            exact ok
          · exact hk3 z k i j l r' (by omega)
        · refine ⟨_, rfl, iteT ?_⟩
          obtain ⟨st4, c1⟩ := st3.raise fit.sd r uq hj a1 a2 (by
            rw [fN_at ej, sN_at ej]
            exact lt)
          rw [fN_at ej, sN_at ej] at st4
          obtain ⟨dx4, g4⟩ := ris4.at_
          obtain ⟨ss, hss, row⟩ := ris4.ra
          have ssl : ss.length = rl3.length + 1 := by rw [row.1, List.length_append]; rfl
          have lst : rl3.length < ss.length := by omega
          have es := List.getElem?_eq_getElem lst
          have new : (rl3 ++ [((idx ps rs[t].2.1, upv ps[idx ps rs[t].2.1].2.1 ps[idx ps rs[t].2.1].2.2 (r1.2.1 + rs[t].2.2), some t, some ci, r1.2.2.2.2 + 1) : RT)])[rl3.length]? = some (idx ps rs[t].2.1, upv ps[idx ps rs[t].2.1].2.1 ps[idx ps rs[t].2.1].2.2 (r1.2.1 + rs[t].2.2), some t, some ci, r1.2.2.2.2 + 1) := by rw [List.getElem?_append_right (Nat.le_refl _), Nat.sub_self]; rfl
          have hs4 := row.2 rl3.length _ _ es new
          refine ⟨_, rfl, a, CR, dx4, _, _, rfl, g4, cr.cls, cr.n5, lk5, 1, rfl, SA, _, _, _, rfl, rfl, SqL.of hss, atLast (by rw [List.length_map]; omega) (by rw [List.length_map, List.getElem?_map, ssl, Nat.add_sub_cancel, es]; rfl), ss[rl3.length], _, 4, _, rfl, rfl, SqT.of hs4, rfl, _, rfl, ?_⟩
          refine ⟨_, _, rfl, rfl, _, rfl, ?_⟩
          by_cases hi' : offOf ps ≤ r1.2.2.2.2 + 1
          · rw [decide_eq_true (show ((offOf ps : Nat) : Int) ≤ ((r1.2.2.2.2 + 1 : Nat) : Int) by omega)]
            refine iteT ?_
            have l4 : (rl3 ++ [((idx ps rs[t].2.1, upv ps[idx ps rs[t].2.1].2.1 ps[idx ps rs[t].2.1].2.2 (r1.2.1 + rs[t].2.2), some t, some ci, r1.2.2.2.2 + 1) : RT)]).length = rl3.length + 1 := by rw [List.length_append]; rfl
            have new2 := new
            rw [show rl3.length = (rl3 ++ [((idx ps rs[t].2.1, upv ps[idx ps rs[t].2.1].2.1 ps[idx ps rs[t].2.1].2.2 (r1.2.1 + rs[t].2.2), some t, some ci, r1.2.2.2.2 + 1) : RT)]).length - 1 by omega] at new2
            refine ⟨_, rfl, a, dx4, _, rfl, g4, lk_no (by decide +kernel) (by decide +kernel) (by decide +kernel) (by decide +kernel) (by decide +kernel) (by decide +kernel), a, NA, CA, RA, SA, LA, ps, rs, _, _, M, _, rfl, ris4, fit, st4.ra, new2, hi', by omega, fun tt tr u v' nm H5 s5 uv vle vof ke en ht htr => ?_⟩
            refine kR H5 tt ((sb3.trans s4).trans (Sb2.of s5)) (fun Z cz hz => st4.none N0 fit.sd new hi' cz hz) ?_
            exact ⟨_, _, u, v', nm, tr, st4.ra, st4.st, new2, uv, vle, vof, ke, en, ht, htr⟩
          rw [decide_eq_false (show ¬ ((offOf ps : Nat) : Int) ≤ ((r1.2.2.2.2 + 1 : Nat) : Int) by omega)]
          refine iteF ?_
          refine ⟨_, true, _, _, rfl, sb3.trans s4, ris4, st4, ?_, fun _ => by omega, fun z => nomatch z⟩
          rw [List.length_append]
          show rl3.length + 1 ≤ _
          omega
      · rintro σ H3 ⟨v, g, rl3, la3, rfl, sb3, ris3, st3, few3, hg3, hk3⟩
        have few5 : rl3.length ≤ rl.length + (m + 1) * rs.length := by
          rw [Nat.add_mul, Nat.one_mul]
          omega
        have st5 : StP ps rs X rl3 la3 (m + 1) 0 := st3.next fun k i j l r => r.ends.2.2
        cases g with
        | true =>
          have := hg3 rfl
          exact ⟨offOf ps + 1 - (m + 1), by omega, _, m + 1, true, rl3, la3, rfl, sb3, ris3, st5, few5, fun _ => ⟨by omega, rfl⟩, fun z => nomatch z⟩
        | false => exact ⟨0, by omega, _, m + 1, false, rl3, la3, rfl, sb3, ris3, st5, few5, (fun z => nomatch z), fun _ => hk3 rfl⟩
end
end K14
namespace K14
open PySem PySem.Spec L2 Rt LamX
open PyProof.Rows hiding St

abbrev sGain : Stmt := inClass (top 5) 0
/-- a row with holes -/
def rowO (ys : List (Option Int)) (p : Nat) : Option Int := match ys[p]? with
  | some (some x) => some x
  | _ => none
theorem rowO_some {ys : List (Option Int)} {p : Nat} {x : Int} (h : ys[p]? = some (some x)) : rowO ys p = some x := by unfold rowO; rw [h]
theorem rowO_none {ys : List (Option Int)} {p : Nat} (h : ys[p]? = some none) : rowO ys p = none := by unfold rowO; rw [h]
theorem rowO_out {ys : List (Option Int)} {p : Nat} (h : ys[p]? = none) : rowO ys p = none := by unfold rowO; rw [h]
theorem rowO_get {ys : List (Option Int)} {p : Nat} (h : p < ys.length) : ys[p]? = some (rowO ys p) := by
  rw [List.getElem?_eq_getElem h]
  cases e : ys[p] with
  | none => rw [rowO_none (by rw [List.getElem?_eq_getElem h, e])]
  | some x => rw [rowO_some (by rw [List.getElem?_eq_getElem h, e])]
theorem rowO_inj {ys zs : List (Option Int)} (l : ys.length = zs.length) (e : rowO ys = rowO zs) : ys = zs := by
  refine List.ext_getElem? fun p => ?_
  rcases Nat.lt_or_ge p ys.length with h | h
  · rw [rowO_get h, rowO_get (l ▸ h), e]
  · rw [List.getElem?_eq_none h, List.getElem?_eq_none (l ▸ h)]
theorem rowO_of {n : Nat} {Y : Nat → Option Int} (out : ∀ p, n ≤ p → Y p = none) : rowO ((List.range n).map Y) = Y := by
  funext p
  rcases Nat.lt_or_ge p n with h | h
  · have e : ((List.range n).map Y)[p]? = some (Y p) := by rw [List.getElem?_map, List.getElem?_range h]; rfl
    cases y : Y p with
    | none => exact rowO_none (by rw [e, y])
    | some x => exact rowO_some (by rw [e, y])
  · rw [out p h]
    exact rowO_out (List.getElem?_eq_none (by rw [List.length_map, List.length_range]; exact h))
theorem ForcedP.uniq {ps : List Pt} {rs : List Rl} {X Y Z : Nat → Option Int} (a : ForcedP ps rs X Y) (b : ForcedP ps rs X Z) : Y = Z := by
  funext p
  cases y : Y p with
  | some v =>
    obtain ⟨z, e, le⟩ := a.least Z b.cl b.ge p v y
    obtain ⟨v2, e2, le2⟩ := b.least Y a.cl a.ge p z e
    rw [y] at e2
    cases e2
    rw [e]
    congr 1
    omega
  | none =>
    cases z : Z p with
    | none => rfl
    | some v =>
      obtain ⟨v2, e2, le2⟩ := b.least Y a.cl a.ge p v z
      rw [y] at e2
      cases e2
/-- the row that floors force -/
structure Due (ps : List Pt) (rs : List Rl) (fs ys : List (Option Int)) : Prop where
  len : ys.length = ps.length
  fo : ForcedP ps rs (XO ps fs) (rowO ys)
theorem Due.uniq {ps : List Pt} {rs : List Rl} {fs ys zs : List (Option Int)} (a : Due ps rs fs ys) (b : Due ps rs fs zs) : ys = zs := rowO_inj (a.len.trans b.len.symm) (a.fo.uniq b.fo)
theorem Due.not {ps : List Pt} {rs : List Rl} {fs ys : List (Option Int)} (a : Due ps rs fs ys) : ¬ NoRow ps rs (XO ps fs) := fun no => no _ a.fo.cl a.fo.ge
theorem numO_out {rl : List RT} {la : List (Option Nat)} {p : Nat} (h : la.length ≤ p) : Rise3.numO rl la p = none := by
  unfold Rise3.numO
  rw [List.getElem?_eq_none h]
theorem Due.of {ps : List Pt} {rs : List Rl} {fs : List (Option Int)} {rl : List RT} {la : List (Option Nat)} (len : la.length = ps.length) (fo : ForcedP ps rs (XO ps fs) (Rise3.numO rl la)) : Due ps rs fs ((List.range ps.length).map (Rise3.numO rl la)) :=
  ⟨by rw [List.length_map, List.length_range], by rw [rowO_of fun p h => numO_out (by omega)]; exact fo⟩
def spForcedO (C : Addr) : Sp := fun vs H Q _ => ∃ (n fl : Addr) (ps : List Pt) (rs : List Rl) (fs : List (Option Int)) (M : Nat), vs = [.ref n, .ref fl] ∧ NetAt H C n ps rs ∧ Fits ps rs M ∧ Row2 H fl (fs.map iV) ∧ fs.length = ps.length ∧
  ps.length + (offOf ps + 2) * rs.length ≤ 900000 ∧ ¬ NoRow ps rs (XO ps fs) ∧ ∀ (t : Addr) (ys : List (Option Int)) (H' : Hp), Same H H' → H' t = some (.tup (ys.map iV)) → Due ps rs fs ys → Q (.ref t) H'
def spForcedX (C CG : Addr) : Sp := fun vs H Q E => ∃ (n fl : Addr) (ps : List Pt) (rs : List Rl) (fs : List (Option Int)) (M : Nat), vs = [.ref n, .ref fl] ∧ NetAt H C n ps rs ∧ Fits ps rs M ∧ Row2 H fl (fs.map iV) ∧ fs.length = ps.length ∧
  ps.length + (offOf ps + 2) * rs.length ≤ 900000 ∧ (∀ (t : Addr) (ys : List (Option Int)) (H' : Hp), Same H H' → H' t = some (.tup (ys.map iV)) → Due ps rs fs ys → Q (.ref t) H') ∧
  (NoRow ps rs (XO ps fs) → ∀ (d t : Addr) (H' : Hp), Same H H' → H' d = some (.xd [("ring", .ref t)]) → RingT H' t ps rs (XO ps fs) → E (.ref CG) (some d) H')
theorem RingT.same {H H' : Hp} {t : Addr} {ps : List Pt} {rs : List Rl} {X : Nat → Option Int} (h : RingT H t ps rs X) (s : Same H H') : RingT H' t ps rs X := by
  obtain ⟨rl, r, u, v, nm, tr, a1, a2, a3, a4, a5, a6, a7, a7b, a8, a9⟩ := h
  exact ⟨rl, r, u, v, nm, tr, a1, a2, a3, a4, a5, a6, a7, a7b, s _ _ a8, s _ _ a9⟩
section
variable {P : Program} {w : World} {K : PySem.W.Frag} {mg : Str → Option Value} {base : Heap} {f C CR CG : Addr} {fd : FuncData}

theorem scGain : FnScope ["self", "ring"] ["self", "ring"] (defScope sGain) := ⟨rfl, rfl, rfl, by decide +kernel, rfl, by decide +kernel, by decide +kernel⟩
theorem ok_iniG (F : Fun K "__init__" "Gain.__init__" sGain f fd) (M : ExM K CG veT) (no : PySem.W.findIn K (.ref CG) "ring" = some none) : FnOk P w K mg base CX0 1 f fd ["self", "ring"] (spIniV CG "ring") := by
  refine F.ok scGain (fun vs H Q E h => ?_) (fun cdv A outer s H vs Q E hr h => ?_)
  · obtain ⟨a, v, rfl, _⟩ := h
    rfl
  · obtain ⟨a, v, rfl, ha, k⟩ := h
    refine ⟨_, pss_one (ps_xs PySem.F.store_ValueError (pv 0) (pv 1)), ?_⟩
    refine ⟨_, rfl, _, rfl, a, CG, rfl, M, no, ha, fun dx nd da => ?_⟩
    refine k dx _ nd da upd_same (by rw [upd_ne da]; exact upd_same) fun b o e nb => ?_
    rw [upd_ne nb, upd_ne (ne_of_none e nd)]
    exact e
theorem ok_forcedO (F : Fun K "forced" "forced" sForced f fd) (cr : ClsR K CR) (mk : Mkr P w K mg base 5 CR "Rising" (spRInitO C CR)) (mFin : Md P w K mg base 3 CR "finish" (spFinO CR)) (mNums : Md P w K mg base 2 CR "numbers" (spRNumsO CR)) : FnOk P w K mg base CX0 7 f fd ["network", "floors"] (spForcedO C) := by
  refine F.ok scForced (fun vs H Q E h => ?_) (fun cdv A outer s H vs Q E hr h => ?_)
  · obtain ⟨n, fl, ps, rs, fs, M, rfl, _⟩ := h
    rfl
  · obtain ⟨n, fl, ps, rs, fs, M, rfl, net, fit, hfl, flen, few, yes, k⟩ := h
    refine ⟨_, (pss_cons (ps_set (i := 2) scForced.nd rfl (.inl rfl) (pe_mkr mk hr (by decide) (by rfl) (pa_cons (pv 0) (pa_cons (pv 1) pa_nil))))
      (pss_cons (ps_set (i := 3) scForced.nd rfl (.inl rfl) (pe_m0' cr.cls mFin hr (by decide) (pv 2)))
      (pss_cons (ps_if (pt_cmpR op_notN (pv 3) pe_non (nomark _)) (pss_one ps_never) pss_nil)
      (pss_one (ps_ret (pe_m0' cr.cls mNums hr (by decide) (pv 2))))))), ?_⟩
    refine ⟨_, rfl, _, rfl, fun a dx na nd da => ?_⟩
    have nd' : (upd H dx (.own a)) a = none := by rw [upd_ne da.symm]; exact na
    have s1 := (same_new (o := .own a) nd).trans (same_new (o := .ins CR dx []) nd')
    have ha : (upd (upd H dx (.own a)) a (.ins CR dx [])) a = some (.ins CR dx []) := upd_same
    revert s1 ha
    generalize upd (upd H dx (.own a)) a (.ins CR dx []) = H1
    intro s1 ha
    have aH : ∀ b o, H b = some o → b ≠ a := fun b o e => ne_of_none e na
    refine ⟨a, dx, n, fl, ps, rs, fs, M, rfl, ha, net.same s1, fit.good, fit.dv, fit.m0, fit.m1, hfl.same s1, flen, fun H2 NA CA RA SA LA rl la b2 nSA nLA ris ini => ?_⟩
    have s2 : Same H H2 := fun b o e => b2 b o (s1 b o e) (aH b o e)
    have nSA0 : H SA = none := none_same s1 nSA
    have nLA0 : H LA = none := none_same s1 nLA
    refine ⟨rfl, ?_⟩
    obtain ⟨dx2, g2⟩ := ris.at_
    refine ⟨_, rfl, a, dx2, _, rfl, g2, lk_no (by decide +kernel) (by decide +kernel) (by decide +kernel) (by decide +kernel) (by decide +kernel) (by decide +kernel), a, NA, CA, RA, SA, LA, ps, rs, rl, la, XO ps fs, M, rfl, ris, fit, ini.st3, ?_, fun H3 rl' la' sb3 ris3 inr len fo => ?_, fun H3 t sb3 no ring => ?_⟩
    · have := ini.le
      omega
    · have s3 : Same H H3 := fun b o e => sb3 b o (s2 b o e) (ne_of_none e nSA0) (ne_of_none e nLA0)
      obtain ⟨dx3, g3⟩ := ris3.at_
      refine ⟨_, rfl, rfl, false, rfl, iteF ?_⟩
      refine ⟨_, rfl, a, dx3, _, rfl, g3, lk_no (by decide +kernel) (by decide +kernel) (by decide +kernel) (by decide +kernel) (by decide +kernel) (by decide +kernel), a, NA, CA, RA, SA, LA, ps, _, rl', la', rfl, ris3, len, fit.good.few, inr, fun t H4 s4 ht => ?_⟩
      refine k t ((List.range ps.length).map (Rise3.numO rl' la')) H4 (s3.trans s4) ?_ (Due.of len fo)
      rw [List.map_map]
      exact ht
    · have s3 : Same H H3 := fun b o e => sb3 b o (s2 b o e) (ne_of_none e nSA0) (ne_of_none e nLA0)
      exact absurd no yes
theorem ok_forcedX (F : Fun K "forced" "forced" sForced f fd) (OG : Own K mg "Gain" "Gain.__init__" "ring" sGain veT "ValueError.__new__" CG) (cr : ClsR K CR) (mk : Mkr P w K mg base 5 CR "Rising" (spRInitO C CR)) (mFin : Md P w K mg base 3 CR "finish" (spFinO CR)) (mNums : Md P w K mg base 2 CR "numbers" (spRNumsO CR)) : FnOk P w K mg base (L2.CX P w) 7 f fd ["network", "floors"] (spForcedX C CG) := by
  refine F.okX scForced (fun vs H Q E h => ?_) (fun cdv A outer s H vs Q E hr h => ?_)
  · obtain ⟨n, fl, ps, rs, fs, M, rfl, _⟩ := h
    rfl
  · obtain ⟨n, fl, ps, rs, fs, M, rfl, net, fit, hfl, flen, few, k, kE⟩ := h
    refine ⟨_, (pss_cons (ps_set (i := 2) scForced.nd rfl (.inl rfl) (pe_mkr mk hr (by decide) (by rfl) (pa_cons (pv 0) (pa_cons (pv 1) pa_nil))))
      (pss_cons (ps_set (i := 3) scForced.nd rfl (.inl rfl) (pe_m0' cr.cls mFin hr (by decide) (pv 2)))
      (pss_cons (ps_if (pt_cmpR op_notN (pv 3) pe_non (nomark _)) (pss_one (ps_raO PySem.F.excBase_ValueError OG rfl (takes_of rfl rfl rfl rfl) (fun f fd F => ok_iniG F OG.M OG.no) (fun f fd F => F.binds fun _ _ _ _ _ _ us hl => match us, hl with | [_, _], _ => rfl) hr (by decide) (by rfl) (pa_cons (pv 3) pa_nil) (fun _ _ _ => mak_V))) pss_nil)
      (pss_one (ps_ret (pe_m0' cr.cls mNums hr (by decide) (pv 2))))))), ?_⟩
    refine ⟨_, rfl, _, rfl, fun a dx na nd da => ?_⟩
    have nd' : (upd H dx (.own a)) a = none := by rw [upd_ne da.symm]; exact na
    have s1 := (same_new (o := .own a) nd).trans (same_new (o := .ins CR dx []) nd')
    have ha : (upd (upd H dx (.own a)) a (.ins CR dx [])) a = some (.ins CR dx []) := upd_same
    revert s1 ha
    generalize upd (upd H dx (.own a)) a (.ins CR dx []) = H1
    intro s1 ha
    have aH : ∀ b o, H b = some o → b ≠ a := fun b o e => ne_of_none e na
    refine ⟨a, dx, n, fl, ps, rs, fs, M, rfl, ha, net.same s1, fit.good, fit.dv, fit.m0, fit.m1, hfl.same s1, flen, fun H2 NA CA RA SA LA rl la b2 nSA nLA ris ini => ?_⟩
    have s2 : Same H H2 := fun b o e => b2 b o (s1 b o e) (aH b o e)
    have nSA0 : H SA = none := none_same s1 nSA
    have nLA0 : H LA = none := none_same s1 nLA
    refine ⟨rfl, ?_⟩
    obtain ⟨dx2, g2⟩ := ris.at_
    refine ⟨_, rfl, a, dx2, _, rfl, g2, lk_no (by decide +kernel) (by decide +kernel) (by decide +kernel) (by decide +kernel) (by decide +kernel) (by decide +kernel), a, NA, CA, RA, SA, LA, ps, rs, rl, la, XO ps fs, M, rfl, ris, fit, ini.st3, ?_, fun H3 rl' la' sb3 ris3 inr len fo => ?_, fun H3 t sb3 no ring => ?_⟩
    · have := ini.le
      omega
    · have s3 : Same H H3 := fun b o e => sb3 b o (s2 b o e) (ne_of_none e nSA0) (ne_of_none e nLA0)
      obtain ⟨dx3, g3⟩ := ris3.at_
      refine ⟨_, rfl, rfl, false, rfl, iteF ?_⟩
      refine ⟨_, rfl, a, dx3, _, rfl, g3, lk_no (by decide +kernel) (by decide +kernel) (by decide +kernel) (by decide +kernel) (by decide +kernel) (by decide +kernel), a, NA, CA, RA, SA, LA, ps, _, rl', la', rfl, ris3, len, fit.good.few, inr, fun t H4 s4 ht => ?_⟩
      refine k t ((List.range ps.length).map (Rise3.numO rl' la')) H4 (s3.trans s4) ?_ (Due.of len fo)
      rw [List.map_map]
      exact ht
    · have s3 : Same H H3 := fun b o e => sb3 b o (s2 b o e) (ne_of_none e nSA0) (ne_of_none e nLA0)
      refine ⟨_, rfl, rfl, true, rfl, iteT ?_⟩
      refine ⟨_, rfl, _, rfl, fun d H4 nd4 s4 hd => ?_⟩
      exact kE no d t H4 (s3.trans s4) hd (ring.same s4)
theorem ok_earO (F : Fun K "earliest" "earliest" sEar f fd) (fFor : Cf P w K mg base 7 "forced" (spForcedO C)) : FnOk P w K mg base CX0 8 f fd ["network", "floors"] (spForcedO C) := by
  refine F.ok scEar (fun vs H Q E h => ?_) (fun cdv A outer s H vs Q E hr h => ?_)
  · obtain ⟨n, fl, ps, rs, fs, M, rfl, _⟩ := h
    rfl
  · have h0 := h
    obtain ⟨n, fl, ps, rs, fs, M, rfl, _⟩ := h0
    refine ⟨_, (pss_one (ps_ret (pe_f fFor hr (by decide) (by rfl) (pa_cons (pv 0) (pa_cons (pv 1) pa_nil))))), ?_⟩
    exact ⟨_, rfl, _, rfl, h⟩
end
end K14
namespace K14
open PySem PySem.Spec L2 Rt
open PyProof.Rows hiding St

theorem numO_raise {rl : List RT} {la : List (Option Nat)} {x : RT} {j p : Nat} (hj : j < la.length) (inr : InR la rl) : Rise3.numO (rl ++ [x]) (la.set j (some rl.length)) p = if p = j then some x.2.1 else Rise3.numO rl la p := by
  by_cases e : p = j
  · subst e
    rw [if_pos rfl]
    exact Rise3.numO_at (List.getElem?_set_self hj) (by rw [List.getElem?_append_right (Nat.le_refl _), Nat.sub_self]; rfl)
  · rw [if_neg e]
    unfold Rise3.numO
    rw [List.getElem?_set_ne (fun z => e z.symm)]
    cases h : la[p]? with
    | none => rfl
    | some o =>
      cases o with
      | none => rfl
      | some i =>
        show Option.map _ _ = Option.map _ _
        rw [List.getElem?_append_left (inr p i h)]
theorem numO_start {n p : Nat} : Rise3.numO [] (List.replicate n none) p = none := by
  unfold Rise3.numO
  cases h : (List.replicate n (none : Option Nat))[p]? with
  | none => rfl
  | some o =>
    have := List.mem_of_getElem? h
    rw [List.mem_replicate] at this
    cases this.2
    rfl
theorem Ini.inr {ps : List Pt} {rs : List Rl} {fs : List (Option Int)} {i : Nat} {rl : List RT} {la : List (Option Nat)} (h : IniP ps rs fs i rl la) : InR la rl := fun p i e => by
  obtain ⟨r, e1, _⟩ := h.lst p i e
  exact (List.getElem?_eq_some_iff.mp e1).1
/-- what the law's dict of numbers holds -/
structure NowR (ps : List Pt) (kvs : List (Key × V)) (rl : List RT) (la : List (Option Nat)) : Prop where
  le : kvs.length ≤ rl.length
  val : ∀ (p : Nat) (x : Str), (namesOf ps)[p]? = some x → valV kvs (Sum.inr x) = (Rise3.numO rl la p).map V.int
theorem NowR.put {ps : List Pt} {kvs : List (Key × V)} {rl : List RT} {la : List (Option Nat)} {x : RT} {j : Nat} {nm : Str} (h : NowR ps kvs rl la) (nd : (namesOf ps).Nodup) (en : (namesOf ps)[j]? = some nm) (hj : j < la.length) (inr : InR la rl) : NowR ps (putK kvs (Sum.inr nm) (.int x.2.1)) (rl ++ [x]) (la.set j (some rl.length)) := by
  refine ⟨?_, fun p y e => ?_⟩
  · rw [List.length_append]
    have := h.le
    have := L2.length_putK kvs (Sum.inr nm : Key) (V.int x.2.1)
    show _ ≤ rl.length + 1
    omega
  · rw [valV_put, numO_raise hj inr]
    by_cases z : p = j
    · subst z
      rw [en] at e
      cases e
      rw [if_pos rfl, if_pos rfl]
      rfl
    · rw [if_neg z, if_neg, h.val p y e]
      intro q
      cases Sum.inr.inj q
      exact z (name_uniq nd en e).symm
theorem getK {H : Hp} {a : Addr} {kvs : List (Key × V)} {x : Str} {o : Option V} (h : H a = some (.dK kvs)) (e : valV kvs (Sum.inr x) = o) : DGet H a (.str x) o := by
  have g := DGet.k (k := (Sum.inr x : Key)) h
  rwa [e] at g
/-- a world of points and rules, and perhaps more -/
structure LW2 (M : Hp) (wd : Addr) (ps : List Pt) (rs : List Rl) : Prop where
  ex : ∃ (PA RA : Addr) (kvs : List (Key × V)) (as bs : List Addr), M wd = some (.dK kvs) ∧ valV kvs (Sum.inr "points") = some (.ref PA) ∧ valV kvs (Sum.inr "rules") = some (.ref RA) ∧ M PA = some (.lst (as.map V.ref)) ∧ M RA = some (.lst (bs.map V.ref)) ∧ Row ptV M as ps ∧ Row rlV M bs rs
theorem getP2 {H : Hp} {wd PA : Addr} {kvs : List (Key × V)} (h : H wd = some (.dK kvs)) (v : valV kvs (Sum.inr "points") = some (.ref PA)) : DGet H wd (.str "points") (some (.ref PA)) := by
  have g := get_k (x := "points") h
  rwa [v] at g
theorem getR2 {H : Hp} {wd RA : Addr} {kvs : List (Key × V)} (h : H wd = some (.dK kvs)) (v : valV kvs (Sum.inr "rules") = some (.ref RA)) : DGet H wd (.str "rules") (some (.ref RA)) := by
  have g := get_k (x := "rules") h
  rwa [v] at g
theorem LWd.lw2 {C : Addr} {M : Hp} {wd : Addr} {ps : List Pt} {rs : List Rl} (h : LWd C M wd ps rs) : LW2 M wd ps rs := by
  obtain ⟨PA, RA, n, as, bs, h1, h2, h3, h4, h5, _⟩ := h.ex
  exact ⟨PA, RA, _, as, bs, h1, rfl, rfl, h2, h3, h4, h5⟩
def spRaisedO (C : Addr) : Sp := fun vs H Q _ => ∃ (wd fl : Addr) (ps : List Pt) (rs : List Rl) (fs : List (Option Int)), vs = [.ref wd, .ref fl] ∧ LW2 H wd ps rs ∧ Fits ps rs 420 ∧ (∀ p, p ∈ ps → p.2.2 ≤ 60) ∧ Row2 H fl (fs.map iV) ∧ fs.length = ps.length ∧
  ps.length + (offOf ps + 3) * rs.length ≤ 900000 ∧
  (∀ (L : Addr) (ys : List (Option Int)) (H' : Hp), Same H H' → H' L = some (.lst (ys.map iV)) → Due ps rs fs ys → Q (.ref L) H') ∧ (∀ H' : Hp, Same H H' → NoRow ps rs (XO ps fs) → Q .non H')
section
variable {P : Program} {w : World} {K : PySem.W.Frag} {mg : Str → Option Value} {base : Heap} {f C : Addr} {fd : FuncData}

theorem ok_raisedO (F : Fun K "_law_raised" "_law_raised" sRaised f fd) (T : Lw mg) (zdict : mg "dict" = none) (zsum : mg "sum" = none) (cU : Cb P w K mg base 1 "_law_up" spLUpX) (cPer : Cb P w K mg base 1 "_law_period" spLPer) : FnG P w K mg base 2 f fd ["world", "floors"] (spRaisedO C) := by
  refine okG F scRais (fun vs H Q E h => ?_) (fun cdv A outer s H vs Q E hg hr h => ?_)
  · obtain ⟨wd, fl, ps, rs, fs, rfl, _⟩ := h
    rfl
  · obtain ⟨wd, fl, ps, rs, fs, rfl, lw, fit, s12, hfl, lfs, fewL, k, kN⟩ := h
    have hu64 := hr.units
    have hu : _ + 1 < cLine := hu_of hr
    refine ⟨_, (pss_cons (ps_par (i := 2) (j := 3) rfl scRais.nd rfl rfl (by decide) rfl rfl (pa_cons (pe_dget hu (pv 0) pe_str (fun _ _ => rfl)) (pa_cons (pe_lc (own := [("point", 5)]) (by rfl) scRais.nd (pi_list (pe_dget hu (pv 0) pe_str (fun _ _ => rfl))) (blkOk_by (N := ["world", "floors", "points", "names", "now", "point", "floor", "clocks", "period", "laps", "lap", "is_new", "start", "end", "least", "late", "name"]) (sc := defScope sRaised) (by decide +kernel)) (fun _ _ _ _ _ => (pg_name (i := 5) scRais.nd rfl (.inl rfl))) (fun _ _ _ _ _ => pts_nil) (fun _ _ _ _ _ => (pe_ix (ix_tup : IxR _ (rIxT K)) (pv 5) pe_int (fun _ _ => rfl)))) pa_nil)) (by rfl))
      (pss_cons (ps_set (i := 4) scRais.nd rfl (.inr rfl) pe_dnewK)
      (pss_cons (ps_for PassesOwn.never rfl (pi_zipS (by rfl) T.zzip (pa_cons (pv 2) (pa_cons (pv 1) pa_nil))) (pg_tup (by rfl) (pgs_cons (pg_name (i := 5) scRais.nd rfl (.inl rfl)) (pgs_cons (pg_name (i := 6) scRais.nd rfl (.inl rfl)) pgs_nil)))
        (pss_one (ps_if (pt_cmpR op_notN (pv 6) pe_non (nomark _)) (pss_one (ps_dput hu (pv 4) (pe_ix ix_tup (pv 5) pe_int (fun _ _ => rfl)) (pe_k cU hg hr (by decide) (by rfl) (pa_cons (pe_slice sl_tup (pv 5) (po_some pe_int) po_none) (pa_cons (pv 6) pa_nil))) rfl)) pss_nil)))
      (pss_cons (ps_set (i := 7) scRais.nd rfl (.inl rfl) (pe_callTy (call_dictP rfl) (by rfl) zdict (by decide +kernel) (pa_cons (pe_lc (own := [("point", 5)]) (by rfl) scRais.nd (pi_list (pv 2)) (blkOk_by (N := ["world", "floors", "points", "names", "now", "point", "floor", "clocks", "period", "laps", "lap", "is_new", "start", "end", "least", "late", "name"]) (sc := defScope sRaised) (by decide +kernel)) (fun _ _ _ _ _ => (pg_name (i := 5) scRais.nd rfl (.inl rfl))) (fun _ _ _ _ _ => pts_nil) (fun _ _ _ _ _ => (pe_tup (pa_cons (pe_ix (ix_tup : IxR _ (rIxT K)) (pv 5) pe_int (fun _ _ => rfl)) (pa_cons (pe_slice (sl_tup : SlR _ (rSlT K)) (pv 5) (po_some pe_int) po_none) pa_nil))))) pa_nil)))
      (pss_cons (ps_set (i := 8) scRais.nd rfl (.inr rfl) (pe_k cPer hg hr (by decide) (by rfl) (pa_cons (pv 2) pa_nil)))
      (pss_cons (ps_set (i := 9) scRais.nd rfl (.inl rfl) (pe_op op_add pe_int (pe_callB (cr_sum (by rfl)) (by rfl) zsum (by decide +kernel) (pa_cons (pe_lc (own := [("point", 5)]) (by rfl) scRais.nd (pi_list (pv 2)) (blkOk_by (N := ["world", "floors", "points", "names", "now", "point", "floor", "clocks", "period", "laps", "lap", "is_new", "start", "end", "least", "late", "name"]) (sc := defScope sRaised) (by decide +kernel)) (fun _ _ _ _ _ => (pg_name (i := 5) scRais.nd rfl (.inl rfl))) (fun _ _ _ _ _ => pts_nil) (fun _ _ _ _ _ => (pe_op op_fdivW (pv 8) (pe_ix (ix_tup : IxR _ (rIxT K)) (pv 5) pe_int (fun _ _ => rfl))))) pa_nil))))
      (pss_cons (ps_for PassesOwn.never rfl (pi_range1 (by rfl) T.zrange (pa_cons (pv 9) pa_nil)) (pg_name (i := 10) scRais.nd rfl (.inl rfl))
        (pss_cons (ps_set (i := 11) scRais.nd rfl (.inl rfl) pe_bl)
        (pss_cons (ps_for PassesOwn.never rfl (pi_list (pe_dget hu (pv 0) pe_str (fun _ _ => rfl))) (pg_tup (by rfl) (pgs_cons (pg_name (i := 12) scRais.nd rfl (.inl rfl)) (pgs_cons (pg_name (i := 13) scRais.nd rfl (.inl rfl)) (pgs_cons (pg_name (i := 14) scRais.nd rfl (.inl rfl)) pgs_nil))))
          (pss_one (ps_if (pt_cmp (pc_din hu (pv 12) (pv 4))) (pss_cons (ps_set (i := 15) scRais.nd rfl (.inl rfl) (pe_k cU hg hr (by decide) (by rfl) (pa_cons (pe_dget hu (pv 7) (pv 13) (fun _ _ => rfl)) (pa_cons (pe_op op_add (pe_dget hu (pv 4) (pv 12) (fun _ _ => rfl)) (pv 14)) pa_nil))))
            (pss_one (ps_if (PW.pt (pw_or (pt_cmp (pc_dnotin hu (pv 13) (pv 4))) (pw_or1 (pt_cmpR op_lt (pe_dget hu (pv 4) (pv 13) (fun _ _ => rfl)) (pv 15) (nomark _))))) (pss_cons (ps_dput hu (pv 4) (pv 13) (pv 15) rfl)
              (pss_one (ps_set (i := 11) scRais.nd rfl (.inl rfl) pe_bl))) pss_nil))) pss_nil)))
        (pss_one (ps_if (pt_not (pt_val (pv 11))) (pss_one (ps_ret (pe_lc (own := [("name", 16)]) (by rfl) scRais.nd (pi_list (pv 3)) (blkOk_by (N := ["world", "floors", "points", "names", "now", "point", "floor", "clocks", "period", "laps", "lap", "is_new", "start", "end", "least", "late", "name"]) (sc := defScope sRaised) (by decide +kernel)) (fun _ _ _ _ _ => (pg_name (i := 16) scRais.nd rfl (.inl rfl))) (fun _ _ _ _ _ => pts_nil) (fun _ _ _ _ _ => (pe_dget1 hu (pv 4) (pv 16) ⟨by rfl, by rfl, by rfl, by rfl⟩))))) pss_nil)))))
      (pss_one (ps_ret pe_non))))))))), ?_⟩
    obtain ⟨PA, RA, kvs0, as, bs, hwd, hvP, hvR, hP, hR, rowP, rowR⟩ := lw.ex
    obtain ⟨t, sq⟩ := row2_sqa (K := K) hfl
    have few := fit.good.few
    have fewR := fit.good.fewR
    have nl : (namesOf ps).length = ps.length := List.length_map ..
    have las : (as.map V.ref).length = ps.length := by rw [List.length_map]; exact rowP.1
    have lxs : (as.map V.ref).length = (fs.map iV).length := by rw [las, List.length_map, lfs]
    -- names
    refine ⟨_, rfl, wd, _, rfl, getP2 hwd hvP, _, rfl, wd, _, rfl, getP2 hwd hvP, PA, rfl, ⟨_, SqL.of hP⟩, fun NA nNA => ?_⟩
    refine lc_it walk_list (fun i H1 => Same H H1 ∧ H1 NA = some (.lst (((namesOf ps).take i).map V.str))) ⟨same_new nNA, upd_same⟩ (fun i H1 _ z => SqL.of (z.1 _ _ hP)) ?_ ?_
    · rintro i y H1 H2 hi ⟨s1, hD⟩ ⟨rfl, hy⟩
      have hip : i < ps.length := by rw [las] at hi; exact hi
      have ep := List.getElem?_eq_getElem hip
      have ea := List.getElem?_eq_getElem (show i < as.length by rw [rowP.1]; exact hip)
      obtain rfl := refA hy ea
      have pa := s1 _ _ (rowP.2 i _ _ ea ep)
      refine ⟨rfl, _, rfl, as[i]'(by rw [rowP.1]; exact hip), _, 0, _, rfl, rfl, SqT.of pa, rfl, ?_⟩
      refine ⟨_, hD, small1000 (by rw [List.length_map, List.length_take]; omega), fun b o z => by rw [upd_ne (ne_of_none z nNA)]; exact s1 b o z, ?_⟩
      rw [upd_same, List.take_succ, show (namesOf ps)[i]? = some ps[i].1 by rw [List.getElem?_map, ep]; rfl, List.map_append]
      rfl
    rintro H1 ⟨s1, hNA⟩
    rw [las, List.take_of_length_le (by omega)] at hNA
    refine ⟨_, _, rfl, ?_⟩
    intro NW nNW
    have s2 := s1.trans (same_new (o := .dK []) nNW)
    have nNW0 : H NW = none := none_same s1 nNW
    have hNA2 := same_new (o := .dK []) nNW _ _ hNA
    have hNW := upd_same (H := H1) (a := NW) (o := .dK [])
    have nea : NA ≠ NW := ne_of_none hNA nNW
    have newd : wd ≠ NW := ne_of_none (s1 _ _ hwd) nNW
    revert s2 hNA2 hNW
    generalize upd H1 NW (.dK []) = H2
    intro s2 hNA hNW
    clear nNW s1
    -- floors
    refine ⟨_, rfl, _, rfl, false, t, PA, fl, _, _, rfl, SqL.of (s2 _ _ hP), sq H2 s2, ?_⟩
    refine for_it (walk_zA lxs) (fun i σ H3 => ∃ (v5 v6 v7 v8 v9 v10 v11 v12 v13 v14 v15 v16 : Option V) (kvs : List (Key × V)) (rl : List RT) (la : List (Option Nat)), σ = [some (.ref wd), some (.ref fl), some (.ref PA), some (.ref NA), some (.ref NW), v5, v6, v7, v8, v9, v10, v11, v12, v13, v14, v15, v16] ∧ Sbut NW H2 H3 ∧ Same H H3 ∧ H3 NW = some (.dK kvs) ∧ NowR ps kvs rl la ∧ IniP ps rs fs i rl la) ⟨_, _, _, _, _, _, _, _, _, _, _, _, _, _, _, rfl, Sbut.refl, s2, hNW, ⟨Nat.le_refl _, fun p x e => by rw [numO_start]; rfl⟩, Rise3.Ini.zero⟩
      (fun i σ H3 _ ⟨_, _, _, _, _, _, _, _, _, _, _, _, _, _, _, _, b3, s3, _⟩ => ⟨SqL.of (s3 _ _ hP), sq H3 s3⟩) ?_ ?_
    · rintro i y σ H3 H4 hi ⟨v5, v6, v7, v8, v9, v10, v11, v12, v13, v14, v15, v16, kvs, rl, la, rfl, b3, s3, hN3, now, ini⟩ ⟨T1, x1, x2, rfl, nT, rfl, e1, e2⟩
      have hip : i < ps.length := by rw [las] at hi; exact hi
      have hif : i < fs.length := by omega
      have ep := List.getElem?_eq_getElem hip
      have ea := List.getElem?_eq_getElem (show i < as.length by rw [rowP.1]; exact hip)
      have ef := List.getElem?_eq_getElem hif
      revert ef
      generalize fs[i] = ox
      intro ef
      obtain rfl := refA e1 ea
      obtain rfl : iV ox = x2 := by
        have e2 : (fs.map iV)[i]? = some x2 := e2
        rw [List.getElem?_map, ef] at e2
        exact Option.some.inj e2
      have s4 := s3.trans (same_new (o := .tup [.ref (as[i]'(by rw [rowP.1]; exact hip)), iV ox]) nT)
      have b4 := b3.trans (Sbut.of (same_new (o := .tup [.ref (as[i]'(by rw [rowP.1]; exact hip)), iV ox]) nT))
      have hN4 := same_new (o := .tup [.ref (as[i]'(by rw [rowP.1]; exact hip)), iV ox]) nT _ _ hN3
      have hT := upd_same (H := H3) (a := T1) (o := .tup [.ref (as[i]'(by rw [rowP.1]; exact hip)), iV ox])
      revert s4 b4 hN4 hT
      generalize upd H3 T1 (.tup [.ref (as[i]'(by rw [rowP.1]; exact hip)), iV ox]) = H4
      intro s4 b4 hN4 hT
      have pa := s4 _ _ (rowP.2 i _ _ ea ep)
      have s0 := (fit.sd i hip).1
      rw [sN_at ep] at s0
      refine ⟨T1, _, rfl, SqT.of hT, rfl, _, _, rfl, _, _, rfl, rfl, ?_⟩
      cases ox with
      | none =>
        refine ⟨_, rfl, rfl, _, rfl, iteF ?_⟩
        exact ⟨_, _, _, _, _, _, _, _, _, _, _, _, kvs, rl, la, rfl, b4, s4, hN4, now, ini.skip (XO_none ef)⟩
      | some x =>
      refine ⟨_, rfl, rfl, _, rfl, iteT ?_⟩
      refine ⟨_, rfl, 1, rfl, as[i]'(by rw [rowP.1]; exact hip), _, rfl, SqT.of pa, (by show ¬ (HT.sIx 3 0 (some 1) = 0 ∧ HT.sIx 3 3 none = 3); decide), fun t2 nt2 => ?_⟩
      have s5 := s4.trans (same_new (o := .tup [.int ps[i].2.1, .int ps[i].2.2]) nt2)
      have b5 := b4.trans (Sbut.of (same_new (o := .tup [.int ps[i].2.1, .int ps[i].2.2]) nt2))
      have hN5 := same_new (o := .tup [.int ps[i].2.1, .int ps[i].2.2]) nt2 _ _ hN4
      refine ⟨_, rfl, t2, ps[i].2.1, ps[i].2.2, x, rfl, upd_same, s0, ?_⟩
      have ek : (namesOf ps)[i]? = some ps[i].1 := by rw [List.getElem?_map, ep]; rfl
      have xo : XO ps fs i = some (upv ps[i].2.1 ps[i].2.2 x) := by rw [XO_some ef, fN_at ep, sN_at ep]
      have now2 := now.put (x := (i, upv ps[i].2.1 ps[i].2.2 x, none, none, 0)) fit.good.nd ek (by rw [ini.ln]; exact hip) (Ini.inr ini)
      refine ⟨_, rfl, _, rfl, as[i]'(by rw [rowP.1]; exact hip), _, 0, _, rfl, rfl, SqT.of (s5 _ _ (rowP.2 i _ _ ea ep)), rfl, NW, _, rfl, DPut.k (k := Sum.inr ps[i].1) hN5 (small1000 (by have := now.le; have := ini.le; omega)), ?_⟩
      refine ⟨_, _, _, _, _, _, _, _, _, _, _, _, _, _, _, rfl, b5.trans Sbut.put, fun b o z => by rw [upd_ne (ne_of_none z nNW0)]; exact s5 b o z, upd_same, now2, ini.add hip xo ?_⟩
      rw [fN_at ep, sN_at ep]
      exact upv_on _ _ _
    · rintro σ H3 ⟨v5, v6, v7, v8, v9, v10, v11, v12, v13, v14, v15, v16, kvs, rl, la, rfl, b3, s3, hN3, now, ini⟩
      rw [las] at ini
      have hNA3 := b3 _ _ hNA nea
      clear b3 hNA hNW s2
      -- clocks
      refine ⟨_, rfl, PA, rfl, ⟨_, SqL.of (s3 _ _ hP)⟩, fun D nD => ?_⟩
      refine lc_it walk_list (fun i H4 => Same H3 H4 ∧ ∃ ts cs : List Addr, H4 D = some (.lst (ts.map V.ref)) ∧ Row prVV H4 ts (((namesOf ps).take i).zip (cs.map V.ref)) ∧ Row ckV H4 cs (ps.take i)) ⟨same_new nD, [], [], upd_same, ⟨by simp, fun _ _ _ z => by cases z⟩, rfl, fun _ _ _ z => by cases z⟩ (fun i H4 _ z => SqL.of (z.1 _ _ (s3 _ _ hP))) ?_ ?_
      · rintro i y H4 H5 hi ⟨s4, ts, cs, hD, row, rowc⟩ ⟨rfl, hy⟩
        have hip : i < ps.length := by rw [las] at hi; exact hi
        have ep := List.getElem?_eq_getElem hip
        have ea := List.getElem?_eq_getElem (show i < as.length by rw [rowP.1]; exact hip)
        obtain rfl := refA hy ea
        have s34 := s3.trans s4
        have pa := s34 _ _ (rowP.2 i _ _ ea ep)
        have ek : (namesOf ps)[i]? = some ps[i].1 := by rw [List.getElem?_map, ep]; rfl
        have lc : cs.length = i := by rw [rowc.1, List.length_take]; omega
        refine ⟨rfl, _, rfl, as[i]'(by rw [rowP.1]; exact hip), _, 0, _, rfl, rfl, SqT.of pa, rfl, _, rfl, 1, rfl, as[i]'(by rw [rowP.1]; exact hip), _, rfl, SqT.of pa, (by show ¬ (HT.sIx 3 0 (some 1) = 0 ∧ HT.sIx 3 3 none = 3); decide), fun t2 nt2 => ⟨(by show 2 ≤ sizeLine; decide), fun tp ntp => ?_⟩⟩
        have z1 := same_new (o := ckV ps[i]) nt2
        have z2 := same_new (o := prVV (ps[i].1, .ref t2)) ntp
        have z12 := z1.trans z2
        have hD6 := z12 _ _ hD
        refine ⟨_, hD6, small1000 (by rw [List.length_map, row.1, List.length_zip, List.length_take, nl]; omega), fun b o z => by rw [upd_ne (ne_of_none z nD)]; exact (s4.trans z12) b o z, ts ++ [tp], cs ++ [t2], ?_, ?_, ?_⟩
        · rw [upd_same, List.map_append]
          rfl
        · rw [List.take_succ, ek, List.map_append, List.zip_append (by rw [List.length_take, nl, List.length_map, lc]; omega)]
          refine Row.snoc ((row.same z12).but (fun b o z ne => by rw [upd_ne ne]; exact z) (row_not (row.same z12) hD6 (fun p z => by cases z))) ?_
          rw [upd_ne (ne_of_none (z1 _ _ hD) ntp).symm, upd_same]
          rfl
        · rw [List.take_succ, ep]
          refine Row.snoc ((rowc.same z12).but (fun b o z ne => by rw [upd_ne ne]; exact z) (row_not (rowc.same z12) hD6 (fun p z => by cases z))) ?_
          rw [upd_ne (ne_of_none hD nt2).symm]
          exact z2 _ _ upd_same
      rintro H4 ⟨s4, ts, cs, hD, row, rowc⟩
      rw [las, List.take_of_length_le (by omega)] at row
      rw [las, List.take_of_length_le (Nat.le_refl _)] at rowc
      have lcs : (cs.map V.ref).length = (namesOf ps).length := by rw [List.length_map, rowc.1, nl]
      refine ⟨D, ts, dictOf (namesOf ps) (cs.map V.ref), rfl, SqL.of hD, paired_rowV ts _ _ lcs row, fun CK nCK => ?_⟩
      rw [dictOf_merge lcs fit.good.nd]
      have z := same_new (o := .dK (dictOf (namesOf ps) (cs.map V.ref))) nCK
      have s5 := (s3.trans s4).trans z
      have hN5 := (s4.trans z) _ _ hN3
      have hNA5 := (s4.trans z) _ _ hNA3
      have rowc5 := rowc.same z
      have hCK := upd_same (H := H4) (a := CK) (o := .dK (dictOf (namesOf ps) (cs.map V.ref)))
      have neCK : CK ≠ NW := (ne_of_none (s4 _ _ hN3) nCK).symm
      revert s5 hN5 hNA5 rowc5 hCK
      generalize upd H4 CK (.dK (dictOf (namesOf ps) (cs.map V.ref))) = H5
      intro s5 hN5 hNA5 rowc5 hCK
      clear z row rowc hD s4 nCK nD hNA3 hN3 s3
      -- period
      refine ⟨_, rfl, PA, as, ps, rfl, s5 _ _ hP, rowP.same s5, fun p m => ⟨(fit.dv p m).1, s12 p m, (fit.dv p m).2⟩, fun H6 s6' => ?_⟩
      have s6 := s5.trans s6'
      have hN6 := s6' _ _ hN5
      have hNA6 := s6' _ _ hNA5
      have rowc6 := rowc5.same s6'
      have hCK6 := s6' _ _ hCK
      clear hCK rowc5 hNA5 hN5 s5 s6'
      -- laps
      have N0 := fit.N0
      have Nlt := fit.Nlt
      refine ⟨_, rfl, PA, rfl, ⟨_, SqL.of (s6 _ _ hP)⟩, fun D nD => ?_⟩
      refine lc_it walk_list (fun i H1 => Same H6 H1 ∧ H1 D = some (.lst (((ps.take i).map fun p => (lcmOf ps : Int) / p.2.2).map V.int))) ⟨same_new nD, upd_same⟩ (fun i H1 _ z => SqL.of (z.1 _ _ (s6 _ _ hP))) ?_ ?_
      · rintro i y H1 H2 hi ⟨s1, hD⟩ ⟨rfl, hy⟩
        have hip : i < ps.length := by rw [las] at hi; exact hi
        have ep := List.getElem?_eq_getElem hip
        have ea := List.getElem?_eq_getElem (show i < as.length by rw [rowP.1]; exact hip)
        obtain rfl := refA hy ea
        have pa := s1 _ _ (s6 _ _ (rowP.2 i _ _ ea ep))
        obtain ⟨k1, k2⟩ := fit.good.ok _ (List.getElem_mem hip)
        refine ⟨rfl, _, rfl, _, rfl, as[i]'(by rw [rowP.1]; exact hip), _, 2, _, rfl, rfl, SqT.of pa, rfl, _, _, rfl, rfl, wide_div (b := 60) (by omega) (by omega) (by omega) (by omega), ?_⟩
        refine ⟨_, hD, small1000 (by rw [List.length_map, List.length_map, List.length_take]; omega), fun b o z => by rw [upd_ne (ne_of_none z nD)]; exact s1 b o z, ?_⟩
        rw [upd_same, List.take_succ, ep, List.map_append, List.map_append]
        rfl
      rintro H7 ⟨s7, hD⟩
      rw [List.take_of_length_le (by rw [las]; exact Nat.le_refl _)] at hD
      refine ⟨D, _, rfl, SqL.of hD, ?_⟩
      rw [off_sum fit]
      have hN7 := s7 _ _ hN6
      have hNA7 := s7 _ _ hNA6
      have rowc7 := rowc6.same s7
      have hCK7 := s7 _ _ hCK6
      have s7 := s6.trans s7
      clear hD nD hCK6 rowc6 hNA6 hN6 s6
      refine ⟨_, _, rfl, rfl, ?_⟩
      have offb := fit.offb
      have neRA : RA ≠ NW := ne_of (s7 _ _ hR) hN7 (by intro z; cases z)
      have rowR7 := rowR.same s7
      have nbs : NW ∉ bs := row_not rowR7 hN7 (fun p z => by cases z)
      have ncs : NW ∉ cs := row_not rowc7 hN7 (fun p z => by cases z)
      have hwd7 := s7 _ _ hwd
      have hR7 := s7 _ _ hR
      refine ⟨_, rfl, (2 : Int) + (offOf ps : Nat), rfl, by omega, by omega, ?_⟩
      rw [show ((2 : Int) + (offOf ps : Nat)).toNat = 2 + offOf ps by omega]
      have ins : StP ps rs (XO ps fs) rl la 0 0 := ini.st3
      have lrl := ini.le
      refine for_range (lo := 0) (fun m σ H8 => ∃ (v10 v11 v12 v13 v14 v15 v16 : Option V) (kvs : List (Key × V)) (rl : List RT) (la : List (Option Nat)), σ = [some (.ref wd), some (.ref fl), some (.ref PA), some (.ref NA), some (.ref NW), v5, v6, some (.ref CK), some (.int (lcmOf ps : Nat)), some (.int (2 + (offOf ps : Nat))), v10, v11, v12, v13, v14, v15, v16] ∧
        Sbut NW H7 H8 ∧ H8 NW = some (.dK kvs) ∧ NowR ps kvs rl la ∧ StP ps rs (XO ps fs) rl la m 0 ∧ rl.length ≤ ps.length + m * rs.length ∧ (m = 0 ∨ ∃ (i : Nat) (r : RT), rl[i]? = some r ∧ m ≤ r.2.2.2.2))
        ⟨_, _, _, _, _, _, _, kvs, rl, la, rfl, Sbut.refl, hN7, now, ins, by omega, .inl rfl⟩ ?_ ?_
      · clear v10 v11 v12 v13 v14 v15 v16 ins lrl ini now hN7 kvs rl la
        rintro m σ H8 hm ⟨v10, v11, v12, v13, v14, v15, v16, kvs, rl, la, rfl, b8, hN8, now, st, lrl, far⟩
        refine ⟨_, rfl, wd, _, rfl, getR2 (b8 _ _ hwd7 newd) hvR, RA, rfl, ⟨_, SqL.of (b8 _ _ hR7 neRA)⟩, ?_⟩
        refine for_it walk_list (fun t σ H9 => ∃ (v12 v13 v14 v15 : Option V) (b : Bool) (kvs : List (Key × V)) (rl : List RT) (la : List (Option Nat)), σ = [some (.ref wd), some (.ref fl), some (.ref PA), some (.ref NA), some (.ref NW), v5, v6, some (.ref CK), some (.int (lcmOf ps : Nat)), some (.int (2 + (offOf ps : Nat))), some (.int (0 + (m : Nat))), some (.bl b), v12, v13, v14, v15, v16] ∧
          Sbut NW H7 H9 ∧ H9 NW = some (.dK kvs) ∧ NowR ps kvs rl la ∧ StP ps rs (XO ps fs) rl la m t ∧ rl.length ≤ ps.length + m * rs.length + t ∧ (b = true → ∃ (i : Nat) (r : RT), rl[i]? = some r ∧ m + 1 ≤ r.2.2.2.2) ∧ (b = false → AllOk ps rs rl la t))
          ⟨_, _, _, _, false, kvs, rl, la, rfl, b8, hN8, now, st, by omega, (fun z => nomatch z), fun _ k i j l _ lt => absurd lt (Nat.not_lt_zero k)⟩ (fun t σ H9 _ ⟨_, _, _, _, _, _, _, _, _, b9, _⟩ => SqL.of (b9 _ _ hR7 neRA)) ?_ ?_
        · rintro t y σ H9 H10 ht ⟨v12, v13, v14, v15, b, kvs, rl, la, rfl, b9, hN9, now3, st3, lrl3, hg3, hk3⟩ ⟨rfl, hy⟩
          have ht' : t < rs.length := by rw [List.length_map, rowR.1] at ht; exact ht
          have et := List.getElem?_eq_getElem ht'
          have eb := List.getElem?_eq_getElem (show t < bs.length by rw [rowR.1]; exact ht')
          obtain rfl := refA hy eb
          have pb := b9 _ _ (rowR7.2 t _ _ eb et) (fun z => nbs (by rw [← z]; exact List.getElem_mem _))
          obtain ⟨m1, m2⟩ := fit.good.ends _ (List.getElem_mem ht')
          have r : RuleAt ps rs t (idx ps rs[t].1) (idx ps rs[t].2.1) rs[t].2.2 := ⟨rs[t], et, idx_at m1, idx_at m2, rfl⟩
          have uq : ∀ i' j' l', RuleAt ps rs t i' j' l' → i' = idx ps rs[t].1 ∧ j' = idx ps rs[t].2.1 ∧ l' = rs[t].2.2 := fun i' j' l' r' => r.uniq fit.good r'
          obtain ⟨hi, hj, _⟩ := r.ends
          have ej := List.getElem?_eq_getElem hj
          have ecj := List.getElem?_eq_getElem (show idx ps rs[t].2.1 < cs.length by rw [rowc7.1]; exact hj)
          have sj := (fit.sd _ hj).1
          rw [sN_at ej] at sj
          have ga := getK hN9 (now3.val _ _ (idx_at m1))
          have gb := getK hN9 (now3.val _ _ (idx_at m2))
          have gc := getD (b9 _ _ hCK7 neCK) fit.good.nd (idx_at m2) (show (cs.map V.ref)[idx ps rs[t].2.1]? = some (.ref (cs[idx ps rs[t].2.1]'(by rw [rowc7.1]; exact hj))) by rw [List.getElem?_map, ecj]; rfl)
          have htc := b9 _ _ (rowc7.2 _ _ _ ecj ej) (fun z => ncs (by rw [← z]; exact List.getElem_mem _))
          have fx : fN ps (idx ps rs[t].2.1) = ps[idx ps rs[t].2.1].2.1 := fN_at ej
          have sx : sN ps (idx ps rs[t].2.1) = ps[idx ps rs[t].2.1].2.2 := sN_at ej
          have far3 : kvs.length ≤ 900000 := by
            have z : m * rs.length ≤ (offOf ps + 2) * rs.length := Nat.mul_le_mul_right _ (by omega)
            rw [Nat.add_mul] at fewL z
            have := now3.le
            omega
          have still : (∀ (a : Nat) (r : RT), la[idx ps rs[t].1]? = some (some a) → rl[a]? = some r → ∃ (b : Nat) (q : RT), la[idx ps rs[t].2.1]? = some (some b) ∧ rl[b]? = some q ∧ r.2.1 + rs[t].2.2 ≤ q.2.1) → StP ps rs (XO ps fs) rl la m (t + 1) ∧ (b = false → AllOk ps rs rl la (t + 1)) := fun ok => ⟨st3.still uq ok, fun z k i j l r' lt => by
            by_cases e : k = t
            · subst e
              obtain ⟨rfl, rfl, rfl⟩ := uq _ _ _ r'
              exact ok
            · exact hk3 z k i j l r' (by omega)⟩
          refine ⟨bs[t]'(by rw [rowR.1]; exact ht'), _, rfl, SqT.of pb, rfl, _, _, rfl, _, _, rfl, _, _, rfl, rfl, ?_⟩
          cases en : Rise3.numO rl la (idx ps rs[t].1) with
          | none =>
            rw [en] at ga
            refine ⟨_, rfl, _, rfl, NW, _, rfl, ga, _, rfl, iteF ?_⟩
            obtain ⟨st4, ok4⟩ := still fun a r' e1 e2 => by
              rw [Rise3.numO_at e1 e2] at en
              cases en
            exact ⟨_, _, _, _, b, kvs, rl, la, rfl, b9, hN9, now3, st4, by omega, hg3, ok4⟩
          | some x =>
            rw [en] at ga
            obtain ⟨ci, r1, a1, a2, rfl⟩ := Rise3.numO_of en
            refine ⟨_, rfl, _, rfl, NW, _, rfl, ga, _, rfl, iteT ?_⟩
            refine ⟨_, rfl, _, rfl, CK, _, rfl, gc, _, rfl, _, rfl, NW, _, rfl, ga, _, rfl, _, _, rfl, rfl, _, ps[idx ps rs[t].2.1].2.1, ps[idx ps rs[t].2.1].2.2, _, rfl, htc, sj, ?_⟩
            refine ⟨_, rfl, _, rfl, NW, _, rfl, gb, _, rfl, ?_⟩
            cases en2 : Rise3.numO rl la (idx ps rs[t].2.1) with
            | none =>
              refine iteT ?_
              refine iteT ?_
              have gt : ∀ (b : Nat) (q : RT), la[idx ps rs[t].2.1]? = some (some b) → rl[b]? = some q → q.2.1 < upv ps[idx ps rs[t].2.1].2.1 ps[idx ps rs[t].2.1].2.2 (r1.2.1 + rs[t].2.2) := fun b q e1 e2 => by
                rw [Rise3.numO_at e1 e2] at en2
                cases en2
              obtain ⟨st4, c1⟩ := st3.raise fit.sd r uq hj a1 a2 (by
                rw [fx, sx]
                exact gt)
              rw [fx, sx] at st4
              have now4 := now3.put (x := (idx ps rs[t].2.1, upv ps[idx ps rs[t].2.1].2.1 ps[idx ps rs[t].2.1].2.2 (r1.2.1 + rs[t].2.2), some t, some ci, r1.2.2.2.2 + 1)) fit.good.nd (idx_at m2) (by rw [st3.ln]; exact hj) (fun p i e => st3.inr p i e)
              refine ⟨_, rfl, _, rfl, _, rfl, NW, _, rfl, DPut.k (k := Sum.inr rs[t].2.1) hN9 (by rw [sizeLine_eq]; omega), ?_⟩
              refine ⟨_, _, _, _, true, _, _, _, rfl, b9.trans Sbut.put, upd_same, now4, st4, ?_, fun _ => ⟨rl.length, _, by rw [List.getElem?_append_right (Nat.le_refl _), Nat.sub_self]; rfl, ?_⟩, (fun z => nomatch z)⟩
              · rw [List.length_append]
                show rl.length + 1 ≤ _
                omega
              · show m + 1 ≤ r1.2.2.2.2 + 1
                omega
            | some x2 =>
              rw [en2] at gb
              obtain ⟨cj, r2, b1, b2, rfl⟩ := Rise3.numO_of en2
              refine iteF ?_
              refine ⟨_, rfl, _, rfl, NW, _, rfl, gb, _, rfl, _, _, rfl, rfl, _, rfl, ?_⟩
              by_cases lt : r2.2.1 < upv ps[idx ps rs[t].2.1].2.1 ps[idx ps rs[t].2.1].2.2 (r1.2.1 + rs[t].2.2)
              · rw [decide_eq_true lt]
                refine iteT ?_
                have gt : ∀ (b : Nat) (q : RT), la[idx ps rs[t].2.1]? = some (some b) → rl[b]? = some q → q.2.1 < upv ps[idx ps rs[t].2.1].2.1 ps[idx ps rs[t].2.1].2.2 (r1.2.1 + rs[t].2.2) := fun b q e1 e2 => by
                  rw [b1] at e1
                  cases e1
                  rw [b2] at e2
                  cases e2
                  exact lt
                obtain ⟨st4, c1⟩ := st3.raise fit.sd r uq hj a1 a2 (by
                  rw [fx, sx]
                  exact gt)
                rw [fx, sx] at st4
                have now4 := now3.put (x := (idx ps rs[t].2.1, upv ps[idx ps rs[t].2.1].2.1 ps[idx ps rs[t].2.1].2.2 (r1.2.1 + rs[t].2.2), some t, some ci, r1.2.2.2.2 + 1)) fit.good.nd (idx_at m2) (by rw [st3.ln]; exact hj) (fun p i e => st3.inr p i e)
                refine ⟨_, rfl, _, rfl, _, rfl, NW, _, rfl, DPut.k (k := Sum.inr rs[t].2.1) hN9 (by rw [sizeLine_eq]; omega), ?_⟩
                refine ⟨_, _, _, _, true, _, _, _, rfl, b9.trans Sbut.put, upd_same, now4, st4, ?_, fun _ => ⟨rl.length, _, by rw [List.getElem?_append_right (Nat.le_refl _), Nat.sub_self]; rfl, ?_⟩, (fun z => nomatch z)⟩
                · rw [List.length_append]
                  show rl.length + 1 ≤ _
                  omega
                · show m + 1 ≤ r1.2.2.2.2 + 1
                  omega
              · rw [decide_eq_false lt]
                refine iteF ?_
                obtain ⟨st4, ok4⟩ := still fun a r' e1 e2 => by
                  rw [a1] at e1
                  cases e1
                  rw [a2] at e2
                  cases e2
                  have := upv_le (f := ps[idx ps rs[t].2.1].2.1) (x := r1.2.1 + rs[t].2.2) sj
                  exact ⟨cj, r2, b1, b2, by omega⟩
                exact ⟨_, _, _, _, b, kvs, rl, la, rfl, b9, hN9, now3, st4, by omega, hg3, ok4⟩
        · rintro σ H9 ⟨v12, v13, v14, v15, b, kvs, rl, la, rfl, b9, hN9, now3, st3, lrl3, hg3, hk3⟩
          rw [List.length_map, rowR.1] at st3 hk3 lrl3
          refine ⟨_, rfl, b, rfl, ?_⟩
          cases b with
          | true =>
            refine iteF ?_
            have c := hg3 rfl
            exact ⟨_, _, _, _, _, _, _, kvs, rl, la, rfl, b9, hN9, now3, st3.next (fun k i j l r => r.ends.2.2), by rw [Nat.add_mul, Nat.one_mul]; omega, .inr c⟩
          | false =>
            refine iteT ?_
            have fo : ForcedP ps rs (XO ps fs) (Rise3.numO rl la) := st3.forced fit.sd fun k i j l r => hk3 rfl k i j l r r.ends.2.2
            have hNA9 := b9 _ _ hNA7 nea
            refine ⟨_, rfl, NA, rfl, ⟨_, SqL.of hNA9⟩, fun D nD => ?_⟩
            refine lc_it walk_list (fun i H1 => Same H9 H1 ∧ H1 D = some (.lst ((List.range i).map fun p => iV (Rise3.numO rl la p)))) ⟨same_new nD, upd_same⟩ (fun i H1 _ z => SqL.of (z.1 _ _ hNA9)) ?_ ?_
            · rintro i y H1 H2 hi ⟨s1, hD⟩ ⟨rfl, hy⟩
              have hip : i < ps.length := by rw [List.length_map, nl] at hi; exact hi
              have ek : (namesOf ps)[i]? = some ps[i].1 := by rw [List.getElem?_map, List.getElem?_eq_getElem hip]; rfl
              obtain rfl : V.str ps[i].1 = y := by
                rw [List.getElem?_map, ek] at hy
                exact Option.some.inj hy
              have g := getK (s1 _ _ hN9) (now3.val _ _ ek)
              refine ⟨rfl, _, rfl, NW, rfl, .inl ⟨_, .inl (s1 _ _ hN9)⟩, _, rfl, _, g, ?_⟩
              refine ⟨_, hD, small1000 (by rw [List.length_map, List.length_range]; omega), fun b o z => by rw [upd_ne (ne_of_none z nD)]; exact s1 b o z, ?_⟩
              rw [upd_same, List.range_succ, List.map_append]
              rw [show ((Rise3.numO rl la i).map V.int).getD V.non = iV (Rise3.numO rl la i) by cases Rise3.numO rl la i <;> rfl]
              rfl
            · rintro H1 ⟨s1, hD⟩
              rw [List.length_map, nl] at hD
              have sH : Same H H1 := fun b o z => s1 _ _ (b9 _ _ (s7 _ _ z) (ne_of_none z nNW0))
              refine k D ((List.range ps.length).map (Rise3.numO rl la)) H1 sH ?_ (Due.of st3.ln fo)
              rw [List.map_map]
              exact hD
      · rintro σ H8 ⟨_, _, _, _, _, _, _, kvs, rl, la, rfl, b8, hN8, now, st, lrl, far⟩
        have sH : Same H H8 := fun b o z => b8 _ _ (s7 _ _ z) (ne_of_none z nNW0)
        refine kN H8 sH fun Z cz hz => ?_
        rcases far with z | ⟨i, r, e, le⟩
        · omega
        · exact st.none N0 fit.sd e (show offOf ps ≤ _ by omega) cz hz
end
end K14
namespace K14
open PySem PySem.Spec L2 Rt
open PyProof.Rows hiding St

def zerosO (n : Nat) : List (Option Int) := (List.range n).map fun _ => some 0
theorem zerosO_len {n : Nat} : (zerosO n).length = n := by unfold zerosO; rw [List.length_map, List.length_range]
def spHas (C : Addr) : Sp := fun vs H Q _ => ∃ (wd : Addr) (ps : List Pt) (rs : List Rl), vs = [.ref wd] ∧ LWd C H wd ps rs ∧ Fits ps rs 420 ∧ (∀ p, p ∈ ps → p.2.2 ≤ 12) ∧ ps.length + (offOf ps + 3) * rs.length ≤ 900000 ∧
  ∀ (b : Bool) (H' : Hp), Same H H' → (b = true → ∃ ys, Due ps rs (zerosO ps.length) ys) → Q (.bl b) H'
def oneO (n i : Nat) (x : Int) : List (Option Int) := (List.range n).map fun p => if p = i then some x else none
def spOne (C : Addr) : Sp := fun vs H Q _ => ∃ (wd : Addr) (ps : List Pt) (rs : List Rl) (nm : Str) (i : Nat) (x : Int), vs = [.ref wd, .str nm, .int x] ∧ LWd C H wd ps rs ∧ Good ps rs ∧ (namesOf ps)[i]? = some nm ∧
  ∀ (L : Addr) (H' : Hp), Same H H' → H' L = some (.lst ((oneO ps.length i x).map iV)) → Q (.ref L) H'
def grO : Option Int → Option Int → Option Int
  | none, b => b
  | some x, none => some x
  | some x, some y => some (if y > x then y else x)
def spGr : Sp := fun vs H Q _ => ∃ (a b : Option Int), vs = [iV a, iV b] ∧ Q (iV (grO a b)) H
theorem rep_zero : ∀ n : Nat, (List.replicate n [V.int 0]).flatten = (zerosO n).map iV
  | 0 => rfl
  | n + 1 => by
    unfold zerosO
    rw [List.replicate_succ', List.flatten_append, rep_zero n, List.range_succ, List.map_append, List.map_append]
    rfl
section
variable {P : Program} {w : World} {K : PySem.W.Frag} {mg : Str → Option Value} {base : Heap} {f C : Addr} {fd : FuncData}

end
end K14
namespace K14
open PySem PySem.Spec L2 Rt LamX
open PyProof.Rows hiding St

/-- what the try makes of a call -/
def TRing (CG : Addr) : (XK → Hp → VK → Prop) → Hp → VK → Prop := fun tl H Q =>
  tl (fun cls d H' => cls = .ref CG ∧ ∃ dd q, d = some dd ∧ H' dd = some (.xd [("ring", .ref q)]) ∧ ∀ p, H' p = none → Q (.ref p) (upd H' p (.lst [.non, .ref q]))) H
    fun v H' => [v, V.non].length ≤ sizeLine ∧ ∀ p, H' p = none → Q (.ref p) (upd H' p (.lst [v, .non]))
structure ExcG (K : PySem.W.Frag) (mg : Str → Option Value) (CG : Addr) : Prop where
  mG : mg "Gain" = some (.ref CG)
  xf : XfC K CG
  no : PySem.W.findIn K (.ref CG) "ring" = some none
  gg : PySem.W.exmOne K (.ref CG) (.ref CG) = some true
end K14
namespace K14
open PySem PySem.Spec L2 Rt
open PyProof.Rows hiding St
/-- the steps have few rests together -/
def few20 (ss : List Int) : Bool := (List.range 21).any fun m => decide (0 < m) && ss.all fun s => decide (s.toNat ∣ m)
theorem few20_of {ss : List Int} (h : few20 ss = true) : ∃ m : Nat, 0 < m ∧ m ≤ 20 ∧ ∀ s, s ∈ ss → s.toNat ∣ m := by
  obtain ⟨m, hm, e⟩ := List.any_eq_true.mp h
  rw [Bool.and_eq_true] at e
  exact ⟨m, of_decide_eq_true e.1, by have := List.mem_range.mp hm; omega, fun s hs => of_decide_eq_true (List.all_eq_true.mp e.2 s hs)⟩
def StepMenu2 (M : Hp) (xs : List V) : Prop := ∀ v, v ∈ xs → ∃ p ss, v = .ref p ∧ M p = some (.lst (ss.map V.int)) ∧ OkS ss ∧ few20 ss = true
theorem stN2 {M : Hp} : StepMenu2 M [] := fun _ h => nomatch h
theorem stC2 {M : Hp} {p : Addr} {xs : List V} (ss : List Int) (h : M p = some (.lst (ss.map V.int))) (ok : OkS ss) (f2 : few20 ss = true) (r : StepMenu2 M xs) : StepMenu2 M (.ref p :: xs) := fun v m => by
  rcases List.mem_cons.mp m with e | m
  · exact ⟨p, ss, e, h, ok, f2⟩
  · exact r v m
/-- the points' clocks lie near each other -/
structure Near (ps : List Pt) : Prop where
  ex : ∃ (far : Int) (m : Nat), 0 < m ∧ m ≤ 20 ∧ ∀ p, p ∈ ps → far - 12 ≤ p.2.1 ∧ p.2.1 ≤ far + 12 ∧ p.2.2.toNat ∣ m
def spLPts2 : Sp := fun vs H Q _ => ∃ (d c : Addr) (n : Nat), vs = [.ref d, .int n] ∧ Src H d c ∧ n ≤ 40 ∧
  ∀ (PA : Addr) (as : List Addr) (ps : List Pt) (H' : Hp), mask d c H' PA = some (.lst (as.map V.ref)) → Row ptV (mask d c H') as ps → ps.length = n → (namesOf ps).Nodup → (∀ p, p ∈ ps → PtW p) → Near ps → Src H' d c → Keep d c H H' → Q (.ref PA) H'
section
variable {P : Program} {w : World} {K : PySem.W.Frag} {mg : Str → Option Value} {base : Heap} {f C : Addr} {fd : FuncData}

end
def spLRls2 : Sp := fun vs H Q _ => ∃ (d c PA SA : Addr) (as : List Addr) (ps : List Pt) (n : Nat) (zs : List Int), vs = [.ref d, .ref PA, .int n, .ref SA] ∧ Src H d c ∧ mask d c H PA = some (.lst (as.map V.ref)) ∧ Row ptV (mask d c H) as ps ∧ ps.length ≤ 40 ∧ (∀ p, p ∈ ps → PtW p) ∧ n ≤ 50 ∧
  mask d c H SA = some (.lst (zs.map V.int)) ∧ 0 < zs.length ∧ zs.length ≤ 100 ∧ (namesOf ps).Nodup ∧
  ∀ (RA : Addr) (bs : List Addr) (rs : List Rl) (T : Nat → Int) (H' : Hp), mask d c H' RA = some (.lst (bs.map V.ref)) → Row rlV (mask d c H') bs rs → rs.length ≤ n → (∀ r, r ∈ rs → r.1 ∈ namesOf ps ∧ r.2.1 ∈ namesOf ps) →
    (∀ p, p < ps.length → (T p - fN ps p) % sN ps p = 0 ∧ fN ps p - 9 ≤ T p ∧ T p ≤ fN ps p + 20) → (∀ k i j l, RuleAt ps rs k i j l → ∃ z, (z = 0 ∨ z ∈ zs) ∧ T i + l ≤ T j + z) → Src H' d c → Keep d c H H' → Q (.ref RA) H'
section
variable {P : Program} {w : World} {K : PySem.W.Frag} {mg : Str → Option Value} {base : Heap} {f C : Addr} {fd : FuncData}

end
end K14
/-! ### rows with holes: the greater of two, what is reached, gaps -/
namespace Rise3
open Rise Rise2
section
variable {n N : Nat} {f s : Nat → Int} {RA : Nat → Nat → Nat → Int → Prop} {X Y Z X1 X2 Y1 Y2 : Nat → Option Int}
/-- the greater of two numbers that may lack -/
def grt : Option Int → Option Int → Option Int
  | none, b => b
  | some x, none => some x
  | some x, some y => some (if y > x then y else x)
def Le (Y Z : Nat → Option Int) : Prop := ∀ p y, Y p = some y → ∃ z, Z p = some z ∧ y ≤ z
theorem grt_left {a b : Option Int} {x : Int} (h : a = some x) : ∃ z, grt a b = some z ∧ x ≤ z := by
  subst h
  cases b with
  | none => exact ⟨x, rfl, Int.le_refl _⟩
  | some y =>
    refine ⟨_, rfl, ?_⟩
    split <;> omega
theorem grt_right {a b : Option Int} {x : Int} (h : b = some x) : ∃ z, grt a b = some z ∧ x ≤ z := by
  subst h
  cases a with
  | none => exact ⟨x, rfl, Int.le_refl _⟩
  | some y =>
    refine ⟨_, rfl, ?_⟩
    split <;> omega
theorem grt_of {a b : Option Int} {x : Int} (h : grt a b = some x) : a = some x ∨ b = some x := by
  cases a with
  | none => exact .inr h
  | some y =>
    cases b with
    | none => exact .inl h
    | some z =>
      have h : some (if z > y then z else y) = some x := h
      split at h
      · exact .inr h
      · exact .inl h
theorem Closed.grt (a : Closed f s RA Y1) (b : Closed f s RA Y2) : Closed f s RA (fun p => grt (Y1 p) (Y2 p)) := by
  refine ⟨fun p x h => ?_, fun k i j l x r h => ?_⟩
  · rcases grt_of h with h | h
    · exact a.on p x h
    · exact b.on p x h
  · rcases grt_of h with h | h
    · obtain ⟨y, e, le⟩ := a.ru k i j l x r h
      obtain ⟨z, e2, le2⟩ := grt_left (b := Y2 j) e
      exact ⟨z, e2, by omega⟩
    · obtain ⟨y, e, le⟩ := b.ru k i j l x r h
      obtain ⟨z, e2, le2⟩ := grt_right (a := Y1 j) e
      exact ⟨z, e2, by omega⟩
/-- what two rows of floors force together -/
theorem Forced.grt (a : Forced n f s RA X1 Y1) (b : Forced n f s RA X2 Y2) : Forced n f s RA (fun p => Rise3.grt (X1 p) (X2 p)) (fun p => Rise3.grt (Y1 p) (Y2 p)) := by
  refine ⟨a.cl.grt b.cl, fun p x hp h => ?_, fun Z cz hz p y h => ?_⟩
  · rcases grt_of h with h | h
    · obtain ⟨y, e, le⟩ := a.ge p x hp h
      obtain ⟨z, e2, le2⟩ := grt_left (b := Y2 p) e
      exact ⟨z, e2, by omega⟩
    · obtain ⟨y, e, le⟩ := b.ge p x hp h
      obtain ⟨z, e2, le2⟩ := grt_right (a := Y1 p) e
      exact ⟨z, e2, by omega⟩
  · rcases grt_of h with h | h
    · refine a.least Z cz (fun q x hq e => ?_) p y h
      obtain ⟨z, e2, le⟩ := grt_left (b := X2 q) e
      obtain ⟨z2, e3, le2⟩ := hz q z hq e2
      exact ⟨z2, e3, by omega⟩
    · refine b.least Z cz (fun q x hq e => ?_) p y h
      obtain ⟨z, e2, le⟩ := grt_right (a := X1 q) e
      obtain ⟨z2, e3, le2⟩ := hz q z hq e2
      exact ⟨z2, e3, by omega⟩
theorem Forced.none : Forced n f s RA (fun _ => none) (fun _ => none) :=
  ⟨⟨fun _ _ h => (nomatch h), fun _ _ _ _ _ _ h => (nomatch h)⟩, fun _ _ _ h => (nomatch h), fun _ _ _ _ _ h => (nomatch h)⟩
theorem Forced.mono (a : Forced n f s RA X1 Y1) (b : Forced n f s RA X2 Y2) (le : ∀ p x, p < n → X1 p = some x → ∃ z, X2 p = some z ∧ x ≤ z) : ∀ p y, Y1 p = some y → ∃ z, Y2 p = some z ∧ y ≤ z :=
  a.least Y2 b.cl fun p x hp h => by
    obtain ⟨z, e, l1⟩ := le p x hp h
    obtain ⟨z2, e2, l2⟩ := b.ge p z hp e
    exact ⟨z2, e2, by omega⟩
/-- what rules reach from the floors that are there -/
inductive Rchd (n : Nat) (RA : Nat → Nat → Nat → Int → Prop) (X : Nat → Option Int) : Nat → Prop
  | base {p : Nat} {x : Int} : p < n → X p = some x → Rchd n RA X p
  | step {k i j : Nat} {l : Int} : RA k i j l → Rchd n RA X i → Rchd n RA X j
theorem Forced.rchd (a : Forced n f s RA X Y) (p : Nat) : (∃ y, Y p = some y) ↔ Rchd n RA X p := by
  constructor
  · rintro ⟨y, e⟩
    have : ∀ p y, Y p = some y → ∃ z, (fun p => open Classical in if Rchd n RA X p then Y p else Option.none) p = some z ∧ y ≤ z := by
      refine a.least _ ⟨fun p x h => ?_, fun k i j l x r h => ?_⟩ fun p x hp h => ?_
      · by_cases c : Rchd n RA X p
        · simp only [if_pos c] at h
          exact a.cl.on p x h
        · simp only [if_neg c] at h
          cases h
      · by_cases c : Rchd n RA X i
        · simp only [if_pos c] at h
          obtain ⟨z, e, le⟩ := a.cl.ru k i j l x r h
          exact ⟨z, by simp only [if_pos (Rchd.step r c)]; exact e, le⟩
        · simp only [if_neg c] at h
          cases h
      · obtain ⟨z, e, le⟩ := a.ge p x hp h
        exact ⟨z, by simp only [if_pos (Rchd.base hp h)]; exact e, le⟩
    obtain ⟨z, e2, _⟩ := this p y e
    by_cases c : Rchd n RA X p
    · exact c
    · simp only [if_neg c] at e2
      cases e2
  · intro h
    induction h with
    | base hp e =>
      obtain ⟨z, e2, _⟩ := a.ge _ _ hp e
      exact ⟨z, e2⟩
    | step r _ ih =>
      obtain ⟨y, e⟩ := ih
      obtain ⟨z, e2, _⟩ := a.cl.ru _ _ _ _ _ r e
      exact ⟨z, e2⟩
/-! gaps -/
def cnt (D : Nat → Int) (t : Int) : Nat → Nat
  | 0 => 0
  | n + 1 => cnt D t n + if D n < t then 1 else 0
theorem cnt_mono {D : Nat → Int} {t u : Int} (h : t ≤ u) : ∀ n, cnt D t n ≤ cnt D u n
  | 0 => Nat.le_refl _
  | n + 1 => by
    have := cnt_mono (D := D) h n
    show cnt D t n + _ ≤ cnt D u n + _
    split <;> split <;> omega
theorem cnt_strict {D : Nat → Int} {t u : Int} (h : t ≤ u) : ∀ (n p : Nat), p < n → t ≤ D p → D p < u → cnt D t n < cnt D u n
  | n + 1, p, hp, h1, h2 => by
    show cnt D t n + _ < cnt D u n + _
    by_cases e : p = n
    · subst e
      have := cnt_mono (D := D) h p
      rw [if_neg (by omega), if_pos h2]
      omega
    · have := cnt_strict h n p (by omega) h1 h2
      split <;> split <;> omega
theorem cnt_lt {D : Nat → Int} {t : Int} : ∀ (n p : Nat), p < n → t ≤ D p → cnt D t n + 1 ≤ n
  | n + 1, p, hp, h1 => by
    show cnt D t n + _ + 1 ≤ n + 1
    by_cases e : p = n
    · subst e
      rw [if_neg (by omega)]
      have : ∀ m, cnt D t m ≤ m := fun m => by
        induction m with
        | zero => exact Nat.le_refl _
        | succ m ih =>
          show cnt D t m + _ ≤ m + 1
          split <;> omega
      have := this p
      omega
    · have := cnt_lt n p (by omega) h1
      split <;> omega
theorem gap_at {D : Nat → Int} {n : Nat} {g : Int} (g0 : 0 ≤ g) : ∀ (m : Nat) (t : Int), cnt D t n ≤ m → ∃ u, u ≤ t ∧ t - m * g ≤ u ∧ ∀ p, p < n → u ≤ D p ∨ D p < u - g
  | 0, t, h => ⟨t, Int.le_refl _, by simp, fun p hp => by
    rcases Int.lt_or_le (D p) t with c | c
    · have := cnt_strict (D := D) (t := D p) (u := t) (by omega) n p hp (Int.le_refl _) c
      omega
    · exact .inl c⟩
  | m + 1, t, h => by
    by_cases c : ∃ p, p < n ∧ t - g ≤ D p ∧ D p < t
    · obtain ⟨p, hp, c1, c2⟩ := c
      have lt := cnt_strict (D := D) (t := D p) (u := t) (by omega) n p hp (Int.le_refl _) c2
      obtain ⟨u, u1, u2, u3⟩ := gap_at (D := D) (n := n) g0 m (D p) (by omega)
      refine ⟨u, by omega, ?_, u3⟩
      have : ((m + 1 : Nat) : Int) * g = (m : Int) * g + g := by
        rw [Int.natCast_add, Int.add_mul]
        simp
      rw [this]
      omega
    · refine ⟨t, Int.le_refl _, ?_, fun p hp => ?_⟩
      · have : 0 ≤ ((m + 1 : Nat) : Int) * g := Int.mul_nonneg (by omega) g0
        omega
      · rcases Int.lt_or_le (D p) t with c1 | c1
        · right
          rcases Int.lt_or_le (D p) (t - g) with c2 | c2
          · exact c2
          · exact absurd ⟨p, hp, c2, c1⟩ c
        · exact .inl c1
end
end Rise3
/-! ### how far a rise goes -/
namespace Rise3
open Rise Rise2
section
variable {n N : Nat} {f s : Nat → Int} {RA : Nat → Nat → Nat → Int → Prop} {X Y : Nat → Option Int}
theorem rise_bound {T u : Nat → Int} {U X0 : Nat → Option Int} {W : Int} (h0 : 0 < N) (oks : ∀ p, p < n → 0 < s p ∧ s p ∣ (N : Int)) (ends : ∀ k i j l, RA k i j l → i < n ∧ j < n)
    (tr : ∀ k i j l, RA k i j l → T i + l ≤ T j + 2) (sp : ∀ p q, p < n → q < n → T p ≤ T q + W)
    (fo : Forced n f s RA X0 U) (hU : ∀ p, p < n → U p = some (u p)) (hX : ∀ p, p < n → X0 p = some (upc (f p) (s p) 0)) : ∀ p, p < n → u p ≤ W + N + ((n : Int) - 1) * ((N : Int) + 1) := by
  intro p0 hp0
  refine Int.not_lt.mp fun big => ?_
  have c0 := cnt_lt (D := fun p => u p - T p) (t := u p0 - T p0) n p0 hp0 (Int.le_refl _)
  obtain ⟨θ, t1, t2, t3⟩ := gap_at (D := fun p => u p - T p) (n := n) (g := (N : Int) + 1) (by omega) (n - 1) (u p0 - T p0) (by omega)
  have en : ((n - 1 : Nat) : Int) = (n : Int) - 1 := by omega
  rw [en] at t2
  have clo : ∀ k i j l, RA k i j l → u i + l ≤ u j := fun k i j l r => by
    obtain ⟨hi, hj⟩ := ends k i j l r
    obtain ⟨y, e, le⟩ := fo.cl.ru k i j l (u i) r (hU i hi)
    rw [hU j hj] at e
    cases e
    exact le
  have ondU : ∀ p, p < n → (u p - f p) % s p = 0 := fun p hp => fo.cl.on p _ (hU p hp)
  have far : ∀ p, p < n → θ ≤ u p - T p → (N : Int) ≤ u p := fun p hp le => by
    have := sp p0 p hp0 hp
    omega
  have key := fo.least (fun p => if p < n then (if θ ≤ u p - T p then some (u p - N) else some (u p)) else none) ⟨fun p x h => ?_, fun k i j l x r h => ?_⟩ (fun p x hp h => ?_) p0 (u p0) (hU p0 hp0)
  · obtain ⟨z, e, le⟩ := key
    simp only [if_pos hp0, if_pos t1] at e
    cases e
    omega
  · by_cases hp : p < n
    · simp only [if_pos hp] at h
      by_cases c : θ ≤ u p - T p
      · rw [if_pos c] at h
        cases h
        have := on_add (K := 1) (oks p hp).2 (ondU p hp)
        rwa [Int.one_mul] at this
      · rw [if_neg c] at h
        cases h
        exact ondU p hp
    · simp only [if_neg hp] at h
      cases h
  · obtain ⟨hi, hj⟩ := ends k i j l r
    have c1 := clo k i j l r
    have c2 := tr k i j l r
    simp only [if_pos hi] at h
    simp only [if_pos hj]
    by_cases cj : θ ≤ u j - T j
    · rw [if_pos cj]
      refine ⟨_, rfl, ?_⟩
      by_cases ci : θ ≤ u i - T i
      · rw [if_pos ci] at h
        cases h
        omega
      · rw [if_neg ci] at h
        cases h
        rcases t3 i hi with z | z
        · exact absurd z ci
        · omega
    · rw [if_neg cj]
      refine ⟨_, rfl, ?_⟩
      by_cases ci : θ ≤ u i - T i
      · rw [if_pos ci] at h
        cases h
        omega
      · rw [if_neg ci] at h
        cases h
        omega
  · rw [hX p hp] at h
    cases h
    simp only [if_pos hp]
    have ge0 : upc (f p) (s p) 0 ≤ u p := by
      obtain ⟨y, e, le⟩ := fo.ge p _ hp (hX p hp)
      rw [hU p hp] at e
      cases e
      exact le
    by_cases c : θ ≤ u p - T p
    · rw [if_pos c]
      refine ⟨_, rfl, ?_⟩
      have := far p hp c
      have on := on_add (K := 1) (oks p hp).2 (ondU p hp)
      rw [Int.one_mul] at on
      exact upc_least (oks p hp).1 (by omega) on
    · rw [if_neg c]
      exact ⟨_, rfl, ge0⟩
theorem Rchd.lt (ends : ∀ k i j l, RA k i j l → i < n ∧ j < n) {p : Nat} (h : Rchd n RA X p) : p < n := by
  cases h with
  | base hp _ => exact hp
  | step r _ => exact (ends _ _ _ _ r).2
/-- low floors where there are none change nothing where there is a number -/
theorem low_same {u : Nat → Int} {U X0 F X' : Nat → Option Int} {lo : Int} (h0 : 0 < N) (oks : ∀ p, p < n → 0 < s p ∧ s p ∣ (N : Int)) (ends : ∀ k i j l, RA k i j l → i < n ∧ j < n)
    (fo : Forced n f s RA X0 U) (hU : ∀ p, p < n → U p = some (u p)) (hX : ∀ p, p < n → X0 p = some (upc (f p) (s p) 0)) (few : ∀ p, p < n → u p + N ≤ 300)
    (told : Forced n f s RA X Y) (lows : ∀ p y, Y p = some y → lo + 300 ≤ y) (hX1 : ∀ p x, p < n → X p = some x → X' p = some x) (hX2 : ∀ p, p < n → X p = none → X' p = some (upc (f p) (s p) lo))
    (full : Forced n f s RA X' F) : ∀ p y, Y p = some y → F p = some y := by
  intro p0 y0 e0
  have hp0 : p0 < n := ((told.rchd p0).mp ⟨y0, e0⟩).lt ends
  obtain ⟨z0, e1, le1⟩ := told.mono full (fun p x hp h => ⟨x, hX1 p x hp h, Int.le_refl _⟩) p0 y0 e0
  have clo : ∀ k i j l, RA k i j l → u i + l ≤ u j := fun k i j l r => by
    obtain ⟨hi, hj⟩ := ends k i j l r
    obtain ⟨y, e, le⟩ := fo.cl.ru k i j l (u i) r (hU i hi)
    rw [hU j hj] at e
    cases e
    exact le
  obtain ⟨K, k1, k2⟩ : ∃ K : Int, lo ≤ K * N ∧ K * N < lo + N := by
    refine ⟨(lo + N - 1) / N, ?_⟩
    have a := Int.emod_add_mul_ediv (lo + N - 1) (N : Int)
    have b := Int.emod_nonneg (lo + N - 1) (show (N : Int) ≠ 0 by omega)
    have c := Int.emod_lt_of_pos (lo + N - 1) (show (0 : Int) < N by omega)
    rw [Int.mul_comm] at a
    omega
  have onK : ∀ p, p < n → (u p + K * N - f p) % s p = 0 := fun p hp => by
    have := on_add (K := -K) (oks p hp).2 (fo.cl.on p _ (hU p hp))
    rw [show u p - -K * (N : Int) = u p + K * N by rw [Int.neg_mul]; omega] at this
    exact this
  have u0 : ∀ p, p < n → 0 ≤ u p := fun p hp => by
    obtain ⟨y, e, le⟩ := fo.ge p _ hp (hX p hp)
    rw [hU p hp] at e
    cases e
    have : (0 : Int) ≤ upc (f p) (s p) 0 := upc_ge (oks p hp).1
    omega
  have key := full.least (fun p => if p < n then (match Y p with | some y => some y | none => some (u p + K * N)) else none) ⟨fun p x h => ?_, fun k i j l x r h => ?_⟩ (fun p x hp h => ?_) p0 z0 e1
  · obtain ⟨z, e, le⟩ := key
    simp only [if_pos hp0, e0] at e
    cases e
    rw [e1]
    congr 1
    omega
  · by_cases hp : p < n
    · simp only [if_pos hp] at h
      cases ey : Y p with
      | some y =>
        rw [ey] at h
        cases h
        exact told.cl.on p _ ey
      | none =>
        rw [ey] at h
        cases h
        exact onK p hp
    · simp only [if_neg hp] at h
      cases h
  · obtain ⟨hi, hj⟩ := ends k i j l r
    have c1 := clo k i j l r
    simp only [if_pos hi] at h
    simp only [if_pos hj]
    cases ey : Y i with
    | some y =>
      rw [ey] at h
      cases h
      obtain ⟨y2, e2, le2⟩ := told.cl.ru k i j l _ r ey
      rw [e2]
      exact ⟨_, rfl, le2⟩
    | none =>
      rw [ey] at h
      cases h
      cases ej : Y j with
      | some y =>
        refine ⟨_, rfl, ?_⟩
        have := lows j y ej
        have := few j hj
        omega
      | none =>
        refine ⟨_, rfl, ?_⟩
        omega
  · simp only [if_pos hp]
    cases ex : X p with
    | some x2 =>
      rw [hX1 p x2 hp ex] at h
      cases h
      obtain ⟨y, ey, le⟩ := told.ge p _ hp ex
      rw [ey]
      exact ⟨_, rfl, le⟩
    | none =>
      rw [hX2 p hp ex] at h
      cases h
      cases ey : Y p with
      | some y =>
        refine ⟨_, rfl, upc_least (oks p hp).1 ?_ (told.cl.on p _ ey)⟩
        have := lows p y ey
        omega
      | none =>
        refine ⟨_, rfl, upc_least (oks p hp).1 ?_ (onK p hp)⟩
        have := u0 p hp
        omega
end
end Rise3
namespace K14
open PySem PySem.Spec L2 Rt
open PyProof.Rows hiding St
/-- the row that the rules were made from, and how near its numbers lie -/
structure Tame (ps : List Pt) (rs : List Rl) (zs : List Int) (T : Nat → Int) : Prop where
  on : ∀ p, p < ps.length → (T p - fN ps p) % sN ps p = 0
  ru : ∀ k i j l, RuleAt ps rs k i j l → ∃ z, (z = 0 ∨ z ∈ zs) ∧ T i + l ≤ T j + z
  near : ∀ p q, p < ps.length → q < ps.length → T p ≤ T q + 53
  few : lcmOf ps ≤ 20
theorem Tame.of {ps : List Pt} {rs : List Rl} {zs : List Int} {T : Nat → Int} (nr : Near ps) (h : ∀ p, p < ps.length → (T p - fN ps p) % sN ps p = 0 ∧ fN ps p - 9 ≤ T p ∧ T p ≤ fN ps p + 20)
    (ru : ∀ k i j l, RuleAt ps rs k i j l → ∃ z, (z = 0 ∨ z ∈ zs) ∧ T i + l ≤ T j + z) : Tame ps rs zs T := by
  obtain ⟨far, m, m0, m20, b⟩ := nr.ex
  refine ⟨fun p hp => (h p hp).1, ru, fun p q hp hq => ?_, ?_⟩
  · have h1 := h p hp
    have h2 := h q hq
    have e1 := List.getElem?_eq_getElem hp
    have e2 := List.getElem?_eq_getElem hq
    rw [fN_at e1] at h1
    rw [fN_at e2] at h2
    have b1 := b _ (List.getElem_mem hp)
    have b2 := b _ (List.getElem_mem hq)
    omega
  · have := Nat.le_of_dvd m0 (lcm_dvd ps 1 (Nat.one_dvd m) fun p mp => (b p mp).2.2)
    exact Nat.le_trans this m20
def spLWorld2 (C : Addr) : Sp := fun vs H Q _ => ∃ (d c SA : Addr) (most many : Nat) (zs : List Int), vs = [.ref d, .int most, .int many, .ref SA] ∧ Src H d c ∧ most ≤ 30 ∧ many ≤ 40 ∧ mask d c H SA = some (.lst (zs.map V.int)) ∧ 0 < zs.length ∧ zs.length ≤ 100 ∧
  ∀ (wd : Addr) (ps : List Pt) (rs : List Rl) (T : Nat → Int) (H' : Hp), LWd C (mask d c H') wd ps rs → ps.length ≤ most → rs.length ≤ many → (∀ p, p ∈ ps → PtW p) → Fits ps rs 420 → Tame ps rs zs T → Src H' d c → Keep d c H H' → Q (.ref wd) H'
section
variable {P : Program} {w : World} {K : PySem.W.Frag} {mg : Str → Option Value} {base : Heap} {f C : Addr} {fd : FuncData}

end
end K14
namespace K14
open PySem PySem.Spec L2 Rt
open PyProof.Rows hiding St

abbrev sHT : Stmt := top 29
/-- there is a timetable -/
def TT (ps : List Pt) (rs : List Rl) : Prop := ∃ X, Keeps ps rs X
theorem row_some {gs : List Int} {p : Nat} (h : p < gs.length) : rowO (gs.map some) p = some (xN gs p) := by
  have e := List.getElem?_eq_getElem h
  rw [xN_at e]
  exact rowO_some (by rw [List.getElem?_map, e]; rfl)
theorem XO_all {ps : List Pt} {gs : List Int} {p : Nat} (h : p < gs.length) : XO ps (gs.map some) p = some (upv (fN ps p) (sN ps p) (xN gs p)) := by
  have e := List.getElem?_eq_getElem h
  rw [xN_at e]
  exact XO_some (by rw [List.getElem?_map, e]; rfl)
/-- floors at all points force numbers at all points -/
theorem Due.all {ps : List Pt} {rs : List Rl} {gs : List Int} {ys : List (Option Int)} (lg : gs.length = ps.length) (a : Due ps rs (gs.map some) ys) : ∃ xs : List Int, ys = xs.map some ∧ xs.length = ps.length ∧ Keeps ps rs (xN xs) := by
  have ex : ∀ p, p < ps.length → ∃ y, rowO ys p = some y := fun p hp => by
    obtain ⟨y, e, _⟩ := a.fo.ge p _ hp (XO_all (by omega))
    exact ⟨y, e⟩
  have la := a.len
  have eq : ys = ((List.range ps.length).map fun p => (rowO ys p).getD 0).map some := by
    refine rowO_inj (by rw [List.length_map, List.length_map, List.length_range]; exact la) ?_
    funext p
    by_cases hp : p < ps.length
    · obtain ⟨y, e⟩ := ex p hp
      rw [row_some (by rw [List.length_map, List.length_range]; exact hp), e]
      rw [xN_at (show ((List.range ps.length).map fun p => (rowO ys p).getD 0)[p]? = some y by rw [List.getElem?_map, List.getElem?_range hp]; show some ((rowO ys p).getD 0) = _; rw [e]; rfl)]
    · rw [rowO_out (List.getElem?_eq_none (by omega)), rowO_out (List.getElem?_eq_none (by rw [List.length_map, List.length_map, List.length_range]; omega))]
  refine ⟨_, eq, by rw [List.length_map, List.length_range], ?_⟩
  have at_ : ∀ p, p < ps.length → rowO ys p = some (xN ((List.range ps.length).map fun p => (rowO ys p).getD 0) p) := fun p hp => by
    obtain ⟨y, e⟩ := ex p hp
    rw [xN_at (show ((List.range ps.length).map fun p => (rowO ys p).getD 0)[p]? = some y by rw [List.getElem?_map, List.getElem?_range hp]; show some ((rowO ys p).getD 0) = _; rw [e]; rfl)]
    exact e
  refine ⟨fun p hp => a.fo.cl.on p _ (at_ p hp), fun k i j l r => ?_⟩
  obtain ⟨hi, hj, _⟩ := r.ends
  obtain ⟨y, e, le⟩ := a.fo.cl.ru k i j l _ r (at_ i hi)
  rw [at_ j hj] at e
  cases e
  exact le
theorem zeros_some (n : Nat) : zerosO n = (List.replicate n (0 : Int)).map some := by
  unfold zerosO
  rw [List.map_replicate]
  refine List.ext_getElem? fun p => ?_
  rw [List.getElem?_map, List.getElem?_replicate]
  by_cases h : p < n
  · rw [List.getElem?_range h, if_pos h]
    rfl
  · rw [List.getElem?_eq_none (by rw [List.length_range]; omega), if_neg h]
    rfl
theorem Due.tt {ps : List Pt} {rs : List Rl} {ys : List (Option Int)} (a : Due ps rs (zerosO ps.length) ys) : TT ps rs := by
  rw [zeros_some] at a
  obtain ⟨xs, _, _, k⟩ := a.all List.length_replicate
  exact ⟨_, k⟩
/-- where there is a timetable, no floors ask for more than there is -/
theorem keeps_yes {ps : List Pt} {rs : List Rl} {M : Nat} {T : Nat → Int} (fit : Fits ps rs M) (a : Keeps ps rs T) (X : Nat → Option Int) : ¬ NoRow ps rs X := fun no => by
  have N0 := fit.N0
  obtain ⟨K, hK⟩ : ∃ K : Nat, ∀ p x, p < ps.length → X p = some x → x ≤ T p + (K : Int) * (lcmOf ps : Int) := by
    have : ∀ n, n ≤ ps.length → ∃ K : Nat, ∀ p x, p < n → X p = some x → x ≤ T p + (K : Int) * (lcmOf ps : Int) := fun n => by
      induction n with
      | zero => exact fun _ => ⟨0, fun p x h => absurd h (Nat.not_lt_zero p)⟩
      | succ n ih =>
        intro h
        obtain ⟨K, hK⟩ := ih (by omega)
        cases ex : X n with
        | none =>
          refine ⟨K, fun p x lt e1 => ?_⟩
          by_cases c : p = n
          · subst c
            rw [ex] at e1
            cases e1
          · exact hK p x (by omega) e1
        | some x =>
          refine ⟨K + (x - T n).toNat, fun p y lt e1 => ?_⟩
          have big : ∀ b : Nat, (b : Int) ≤ (b : Int) * (lcmOf ps : Int) := fun b => by
            have := Int.mul_le_mul_of_nonneg_left (show (1 : Int) ≤ (lcmOf ps : Int) by omega) (show (0 : Int) ≤ (b : Int) by omega)
            rwa [Int.mul_one] at this
          have add : (((K + (x - T n).toNat : Nat) : Int)) * (lcmOf ps : Int) = (K : Int) * (lcmOf ps : Int) + ((x - T n).toNat : Int) * (lcmOf ps : Int) := by
            rw [Int.natCast_add, Int.add_mul]
          rw [add]
          by_cases c : p = n
          · subst c
            rw [ex] at e1
            cases e1
            have b1 := big K
            have b2 := big (x - T p).toNat
            omega
          · have := hK p y (by omega) e1
            have b2 := big (x - T n).toNat
            omega
    exact this ps.length (Nat.le_refl _)
  refine no (fun p => if p < ps.length then some (T p + (K : Int) * (lcmOf ps : Int)) else none) ⟨fun p x h => ?_, fun k i j l x r h => ?_⟩ fun p x hp h => ?_
  · by_cases hp : p < ps.length
    · rw [if_pos hp] at h
      cases h
      have := Rise.on_add (K := -(K : Int)) (fit.sd p hp).2 (a.on p hp)
      rw [show T p - -(K : Int) * (lcmOf ps : Int) = T p + (K : Int) * (lcmOf ps : Int) by rw [Int.neg_mul]; omega] at this
      exact this
    · rw [if_neg hp] at h
      cases h
  · obtain ⟨hi, hj, _⟩ := r.ends
    rw [if_pos hi] at h
    cases h
    refine ⟨_, if_pos hj, ?_⟩
    have := a.ru k i j l r
    omega
  · exact ⟨_, if_pos hp, hK p x hp h⟩
theorem tt_no {ps : List Pt} {rs : List Rl} {M : Nat} {X : Nat → Option Int} (fit : Fits ps rs M) (no : NoRow ps rs X) : ¬ TT ps rs := fun ⟨_, k⟩ => keeps_yes fit k X no
def spHas2 (C : Addr) : Sp := fun vs H Q _ => ∃ (wd : Addr) (ps : List Pt) (rs : List Rl), vs = [.ref wd] ∧ LWd C H wd ps rs ∧ Fits ps rs 420 ∧ (∀ p, p ∈ ps → p.2.2 ≤ 12) ∧ ps.length + (offOf ps + 3) * rs.length ≤ 900000 ∧
  ∀ (b : Bool) (H' : Hp), Same H H' → (b = true ↔ TT ps rs) → Q (.bl b) H'
def spFRO (C : Addr) : Sp := fun vs H Q _ => ∃ (n : Addr) (ps : List Pt) (rs : List Rl) (M : Nat), vs = [.ref n] ∧ NetAt H C n ps rs ∧ Fits ps rs M ∧ ps.length + (offOf ps + 2) * rs.length ≤ 900000 ∧
  (∀ H', Same H H' → TT ps rs → Q .non H') ∧ (∀ (t : Addr) (H' : Hp), Same H H' → ¬ TT ps rs → RingT H' t ps rs (XO ps (zerosO ps.length)) → Q (.ref t) H')
def spHT (C : Addr) : Sp := fun vs H Q _ => ∃ (n : Addr) (ps : List Pt) (rs : List Rl) (M : Nat), vs = [.ref n] ∧ NetAt H C n ps rs ∧ Fits ps rs M ∧ ps.length + (offOf ps + 2) * rs.length ≤ 900000 ∧
  ∀ (b : Bool) (H' : Hp), Same H H' → (b = true ↔ TT ps rs) → Q (.bl b) H'
def spLatO (C : Addr) : Sp := fun vs H Q _ => ∃ (n fl : Addr) (ps : List Pt) (rs : List Rl) (cs : List Int) (M : Nat), vs = [.ref n, .ref fl] ∧ NetAt H C n ps rs ∧ Fits ps rs M ∧ Row2 H fl (cs.map V.int) ∧ cs.length = ps.length ∧
  ps.length + (offOf ps + 2) * rs.length ≤ 900000 ∧ TT ps rs ∧ ∀ (t : Addr) (xs : List Int) (H' : Hp), Same H H' → H' t = some (.tup (xs.map V.int)) → xs.length = ps.length → Keeps ps rs (xN xs) → Q (.ref t) H'
def spLatX (C CG : Addr) : Sp := fun vs H Q E => ∃ (n fl : Addr) (ps : List Pt) (rs : List Rl) (cs : List Int) (M : Nat), vs = [.ref n, .ref fl] ∧ NetAt H C n ps rs ∧ Fits ps rs M ∧ Row2 H fl (cs.map V.int) ∧ cs.length = ps.length ∧
  ps.length + (offOf ps + 2) * rs.length ≤ 900000 ∧ (∀ (t : Addr) (xs : List Int) (H' : Hp), Same H H' → H' t = some (.tup (xs.map V.int)) → xs.length = ps.length → Keeps ps rs (xN xs) → Q (.ref t) H') ∧
  (¬ TT ps rs → ∀ (d t : Addr) (H' : Hp), Same H H' → H' d = some (.xd [("ring", .ref t)]) → RingT H' t ps rs (XO ps (zerosO ps.length)) → E (.ref CG) (some d) H')
theorem iV_some (gs : List Int) : (gs.map some).map iV = gs.map V.int := by
  rw [List.map_map]
  rfl
section
variable {P : Program} {w : World} {K : PySem.W.Frag} {mg : Str → Option Value} {base : Heap} {f C CR CG : Addr} {fd : FuncData}

theorem ok_findringO (F : Fun K "find_ring" "find_ring" sFR f fd) (T : Wds mg) (cn : ClsN K C) (M : Meths P w K mg base C) (cr : ClsR K CR) (mkR : Mkr P w K mg base 5 CR "Rising" (spRInitO C CR)) (mFin : Md P w K mg base 3 CR "finish" (spFinO CR)) : FnOk P w K mg base CX0 7 f fd ["network"] (spFRO C) := by
  refine F.ok scFR (fun vs H Q E h => ?_) (fun cdv A outer s H vs Q E hr h => ?_)
  · obtain ⟨n, ps, rs, M, rfl, _⟩ := h
    rfl
  · obtain ⟨n, ps, rs, MM, rfl, net, fit, few, k1, k2⟩ := h
    refine ⟨_, (pss_one (ps_ret (pe_m0' cr.cls mFin hr (by decide) (pe_mkr mkR hr (by decide) (by rfl) (pa_cons (pv 0) (pa_cons (pe_op op_rep (pe_lst (pa_cons pe_int pa_nil)) (pe_callB call_len_seq (by rfl) T.zlen (by decide +kernel) (pa_cons (pe_m0' cn.cls M.names hr (by decide) (pv 0)) pa_nil))) pa_nil)))))), ?_⟩
    obtain ⟨dn, fsn, hN, look⟩ := net_look net
    have few1 := fit.good.few
    refine ⟨_, rfl, (by show 1 ≤ sizeLine; decide), fun l0 nl0 => ?_⟩
    have s0 := same_new (o := .lst [.int 0]) nl0
    have hl0 := upd_same (H := H) (a := l0) (o := .lst [.int 0])
    revert s0 hl0
    generalize upd H l0 (.lst [.int 0]) = H1
    intro s0 hl0
    refine ⟨_, rfl, n, dn, fsn, rfl, s0 _ _ hN, look _ (by decide +kernel) (by decide +kernel) (by decide +kernel), n, ps, rs, rfl, net.same s0, few1, fun NL H2 nNL s2 hNL => ?_⟩
    have nl : ((namesOf ps).map V.str).length = ps.length := by rw [List.length_map]; exact List.length_map ..
    refine ⟨NL, _, rfl, .inl (SqL.of hNL), l0, _, _, rfl, rfl, s2 _ _ hl0, by omega, by omega, ?_, fun fl nfl => ?_⟩
    · rw [nl, Int.toNat_natCast, sizeLine_eq]
      show 1 * ps.length ≤ _
      omega
    rw [nl, Int.toNat_natCast, rep_zero]
    have sf := same_new (o := .lst ((zerosO ps.length).map iV)) nfl
    have hfl := upd_same (H := H2) (a := fl) (o := .lst ((zerosO ps.length).map iV))
    have sH := (s0.trans s2).trans sf
    revert hfl sH
    generalize upd H2 fl (.lst ((zerosO ps.length).map iV)) = H3
    intro hfl sH
    refine fun a dx na nd da => ?_
    have nd' : (upd H3 dx (.own a)) a = none := by rw [upd_ne da.symm]; exact na
    have s1 := (same_new (o := .own a) nd).trans (same_new (o := .ins CR dx []) nd')
    have ha : (upd (upd H3 dx (.own a)) a (.ins CR dx [])) a = some (.ins CR dx []) := upd_same
    revert s1 ha
    generalize upd (upd H3 dx (.own a)) a (.ins CR dx []) = H4
    intro s1 ha
    have s14 := sH.trans s1
    have aH : ∀ b o, H3 b = some o → b ≠ a := fun b o e => ne_of_none e na
    refine ⟨a, dx, n, fl, ps, rs, zerosO ps.length, MM, rfl, ha, net.same s14, fit.good, fit.dv, fit.m0, fit.m1, .inl (s1 _ _ hfl), zerosO_len, fun H5 NA CA RA SA LA rl la b2 nSA nLA ris ini => ?_⟩
    have s5 : Same H H5 := fun b o e => b2 b o (s14 b o e) (aH b o (sH b o e))
    have nSA0 : H SA = none := none_same s14 nSA
    have nLA0 : H LA = none := none_same s14 nLA
    refine ⟨rfl, ?_⟩
    obtain ⟨dx2, g2⟩ := ris.at_
    refine ⟨a, dx2, _, rfl, g2, lk_no (by decide +kernel) (by decide +kernel) (by decide +kernel) (by decide +kernel) (by decide +kernel) (by decide +kernel), a, NA, CA, RA, SA, LA, ps, rs, rl, la, XO ps (zerosO ps.length), MM, rfl, ris, fit, ini.st3, ?_, fun H6 rl' la' sb3 ris3 inr len fo => ?_, fun H6 t sb3 no ring => ?_⟩
    · have := ini.le
      omega
    · exact k1 H6 (fun b o e => sb3 b o (s5 b o e) (ne_of_none e nSA0) (ne_of_none e nLA0)) (Due.of len fo).tt
    · exact k2 t H6 (fun b o e => sb3 b o (s5 b o e) (ne_of_none e nSA0) (ne_of_none e nLA0)) (tt_no fit no) ring

theorem scHT : FnScope ["network"] ["network"] (defScope sHT) := ⟨rfl, rfl, rfl, by decide +kernel, rfl, by decide +kernel, by decide +kernel⟩
theorem ok_HT (F : Fun K "has_timetable" "has_timetable" sHT f fd) (fFR : Cf P w K mg base 7 "find_ring" (spFRO C)) : FnOk P w K mg base CX0 8 f fd ["network"] (spHT C) := by
  refine F.ok scHT (fun vs H Q E h => ?_) (fun cdv A outer s H vs Q E hr h => ?_)
  · obtain ⟨n, ps, rs, M, rfl, _⟩ := h
    rfl
  · obtain ⟨n, ps, rs, M, rfl, net, fit, few, k⟩ := h
    refine ⟨_, (pss_one (ps_ret (pe_cmpR op_isN (pe_f fFR hr (by decide) (by rfl) (pa_cons (pv 0) pa_nil)) pe_non (nomark _)))), ?_⟩
    refine ⟨_, rfl, n, ps, rs, M, rfl, net, fit, few, fun H1 s1 tt => ?_, fun t H1 s1 no ring => ?_⟩
    · refine ⟨rfl, ?_⟩
      exact k true H1 s1 ⟨fun _ => tt, fun _ => rfl⟩
    · refine ⟨rfl, ?_⟩
      exact k false H1 s1 ⟨(fun z => nomatch z), fun z => absurd z no⟩

theorem ok_earX (F : Fun K "earliest" "earliest" sEar f fd) (fFor : CfX P w K mg base 7 "forced" (spForcedX C CG)) : FnOk P w K mg base (L2.CX P w) 8 f fd ["network", "floors"] (spForcedX C CG) := by
  refine F.okX scEar (fun vs H Q E h => ?_) (fun cdv A outer s H vs Q E hr h => ?_)
  · obtain ⟨n, fl, ps, rs, fs, M, rfl, _⟩ := h
    rfl
  · have h0 := h
    obtain ⟨n, fl, ps, rs, fs, M, rfl, _⟩ := h0
    refine ⟨_, (pss_one (ps_ret (pe_fx fFor hr (by decide) (by rfl) (takes_of rfl rfl rfl rfl) (fun _ _ _ _ z => z) (pa_cons (pv 0) (pa_cons (pv 1) pa_nil))))), ?_⟩
    exact ⟨_, rfl, _, rfl, h⟩

end
end K14
/-! ### the walk that a ring of raises tells -/
namespace Rise3
open Rise Rise2
section
variable {n N : Nat} {f s : Nat → Int} {RA : Nat → Nat → Nat → Int → Prop}
theorem qb_idx {rl : List RT} (h : Raised n f s RA rl) {i : Nat} {r : RT} (e : rl[i]? = some r) {w : Nat} (le : w ≤ r.2.2.2.2) : ∃ c : Nat, bk rl i w = some c ∧ rl[c]? = some (qb rl i w) ∧ (qb rl i w).2.2.2.2 + w = r.2.2.2.2 := by
  obtain ⟨c, q, b1, b2, b3, _⟩ := bk_at h w i r e le
  have := qb_at b1 b2
  rw [this]
  exact ⟨c, b1, b2, b3⟩
theorem qb_step {rl : List RT} (h : Raised n f s RA rl) {i : Nat} {r : RT} (e : rl[i]? = some r) {w : Nat} (lt : w < r.2.2.2.2) :
    ∃ (c c2 k : Nat) (l : Int), bk rl i w = some c ∧ bk rl i (w + 1) = some c2 ∧ c2 < c ∧ (qb rl i w).2.2.1 = some k ∧ RA k (qb rl i (w + 1)).1 (qb rl i w).1 l ∧ (qb rl i w).2.1 = upc (f (qb rl i w).1) (s (qb rl i w).1) ((qb rl i (w + 1)).2.1 + l) := by
  obtain ⟨c, b1, b2, b3⟩ := qb_idx h e (show w ≤ r.2.2.2.2 by omega)
  rcases h.cs c _ b2 with ⟨_, _, z⟩ | ⟨k, c2, q, l, a1, a2, a3, a4, a5, a6, _⟩
  · omega
  · have b4 := bk_succ w i c c2 _ b1 b2 a2
    have eq := qb_at b4 a4
    rw [← eq] at a5 a6
    exact ⟨c, c2, k, l, b1, b4, a3, a1, a5, a6⟩
theorem bk_lt {rl : List RT} (h : Raised n f s RA rl) {i : Nat} {r : RT} (e : rl[i]? = some r) {u : Nat} : ∀ v, u < v → v ≤ r.2.2.2.2 → ∀ c d, bk rl i u = some c → bk rl i v = some d → d < c
  | 0, lt, _, _, _, _, _ => absurd lt (Nat.not_lt_zero u)
  | v + 1, lt, le, c, d, ec, ed => by
    obtain ⟨a, b, _, _, e1, e2, ba, _⟩ := qb_step h e (show v < r.2.2.2.2 by omega)
    rw [e2] at ed
    cases ed
    rcases Nat.lt_or_eq_of_le (Nat.le_of_lt_succ lt) with lt | rfl
    · have := bk_lt h e v lt (by omega) c a ec e1
      omega
    · rw [e1] at ec
      cases ec
      exact ba
theorem qb_grow {rl : List RT} (h : Raised n f s RA rl) {i : Nat} {r : RT} (e : rl[i]? = some r) {u v : Nat} (lt : u < v) (le : v ≤ r.2.2.2.2) (same : (qb rl i u).1 = (qb rl i v).1) : (qb rl i v).2.1 < (qb rl i u).2.1 := by
  obtain ⟨c, c1, c2, _⟩ := qb_idx h e (show u ≤ r.2.2.2.2 by omega)
  obtain ⟨d, d1, d2, _⟩ := qb_idx h e le
  exact h.inc d c _ _ (bk_lt h e v lt le c d c1 d1) d2 c2 same.symm
end
end Rise3
namespace K14
open PySem PySem.Spec L2 Rt
open PyProof.Rows hiding St

abbrev sClk : Stmt := top 35
abbrev sLed : Stmt := top 38
abbrev sIsR : Stmt := top 39
abbrev sToldR : Stmt := top 40
/-- a walk: where it stands, step by step, and the rules it goes by -/
structure WalkW (ps : List Pt) (rs : List Rl) (ks : List Nat) (St : Nat → Nat × Int) : Prop where
  go : ∀ t k, ks[t]? = some k → ∃ l, RuleAt ps rs k (St t).1 (St (t + 1)).1 l ∧ (St (t + 1)).2 = upv (fN ps (St (t + 1)).1) (sN ps (St (t + 1)).1) ((St t).2 + l)
def natV (ks : List Nat) : List V := ks.map fun k => V.int (k : Nat)
/-- a ring that gains, as a value -/
structure RingW (M : Hp) (t : Addr) (ps : List Pt) (rs : List Rl) : Prop where
  ex : ∃ (nm : Str) (i : Nat) (x : Int) (tr : Addr) (ks : List Nat) (St : Nat → Nat × Int), M t = some (.tup [.str nm, .int x, .ref tr]) ∧ M tr = some (.tup (natV ks)) ∧ (namesOf ps)[i]? = some nm ∧ (x - fN ps i) % sN ps i = 0 ∧
    0 < ks.length ∧ ks.length ≤ offOf ps ∧ WalkW ps rs ks St ∧ St 0 = (i, x) ∧ (St ks.length).1 = i ∧ x + (lcmOf ps : Nat) ≤ (St ks.length).2
theorem RingW.same {M M' : Hp} {t : Addr} {ps : List Pt} {rs : List Rl} (h : RingW M t ps rs) (s : Same M M') : RingW M' t ps rs := by
  obtain ⟨nm, i, x, tr, ks, St, h1, h2, h3⟩ := h.ex
  exact ⟨nm, i, x, tr, ks, St, s _ _ h1, s _ _ h2, h3⟩
theorem cut_drop {xs : List V} {n : Nat} (h : n ≤ xs.length) : cutV xs (some (n : Int)) none = xs.drop n := by
  unfold cutV
  rw [show HT.sIx xs.length xs.length none = xs.length from rfl, HT.sIx_nat, Nat.min_eq_left h]
  rw [List.take_of_length_le]
  rw [List.length_drop]
  exact Nat.le_refl _
theorem RingT.ringW {H : Hp} {t : Addr} {ps : List Pt} {rs : List Rl} {X : Nat → Option Int} {M : Nat} (fit : Fits ps rs M) (h : RingT H t ps rs X) : RingW H t ps rs := by
  obtain ⟨rl, r, u, v, nm, tr, ra, _, er, uv, vd, vo, ke, en, ht, htr⟩ := h
  generalize rl.length - 1 = last at er ke en ht htr
  obtain ⟨k1, k2⟩ := keyR_of ke
  have grow := Rise3.qb_grow ra er uv vd k1
  obtain ⟨c, _, hc, _⟩ := Rise3.qb_idx ra er vd
  obtain ⟨pv, ov⟩ := ra.pt c _ hc
  have N0 := fit.N0
  have len : (ruleL rl last v).length = v := by unfold ruleL; rw [List.length_map, List.length_range]
  rw [cut_drop (by omega)] at htr
  refine ⟨nm, (Rise3.qb rl last v).1, (Rise3.qb rl last v).2.1, tr, (List.range (v - u)).map (fun t => ((Rise3.qb rl last (v - 1 - t)).2.2.1).getD 0), fun t => ((Rise3.qb rl last (v - t)).1, (Rise3.qb rl last (v - t)).2.1), ht, ?_, en, ov, by rw [List.length_map, List.length_range]; omega, by rw [List.length_map, List.length_range]; omega, ⟨fun t k e => ?_⟩, rfl, ?_, ?_⟩
  · rw [htr]
    congr 2
    refine List.ext_getElem? fun t => ?_
    unfold natV
    rw [List.map_map, List.getElem?_map]
    by_cases lt : t < v - u
    · rw [List.getElem?_range lt, List.getElem?_reverse (by rw [List.length_drop, len]; exact lt), List.getElem?_drop, List.length_drop, len]
      unfold ruleL
      rw [List.getElem?_map, show u + (v - u - 1 - t) = v - 1 - t by omega, List.getElem?_range (by omega)]
      obtain ⟨_, _, k, l, _, _, _, e, _⟩ := Rise3.qb_step ra er (show v - 1 - t < r.2.2.2.2 by omega)
      show some (oV (Rise3.qb rl last (v - 1 - t)).2.2.1) = some (V.int (((Rise3.qb rl last (v - 1 - t)).2.2.1.getD 0 : Nat)))
      rw [e]
      rfl
    · rw [List.getElem?_eq_none (by rw [List.length_reverse, List.length_drop, len]; omega), List.getElem?_eq_none (by rw [List.length_range]; omega)]
      rfl
  · rw [List.getElem?_map] at e
    have lt : t < v - u := by
      rcases Nat.lt_or_ge t (v - u) with h | h
      · exact h
      · rw [List.getElem?_eq_none (by rw [List.length_range]; exact h)] at e
        cases e
    rw [List.getElem?_range lt] at e
    obtain ⟨_, _, k', l, _, _, _, e1, e2, e3⟩ := Rise3.qb_step ra er (show v - 1 - t < r.2.2.2.2 by omega)
    have e : some ((Rise3.qb rl last (v - 1 - t)).2.2.1.getD 0) = some k := e
    rw [e1] at e
    obtain rfl : k' = k := Option.some.inj e
    rw [show v - 1 - t + 1 = v - t by omega] at e2 e3
    refine ⟨l, ?_, ?_⟩
    · show RuleAt ps rs k' (Rise3.qb rl last (v - t)).1 (Rise3.qb rl last (v - (t + 1))).1 l
      rw [show v - (t + 1) = v - 1 - t by omega]
      exact e2
    · show (Rise3.qb rl last (v - (t + 1))).2.1 = upv (fN ps (Rise3.qb rl last (v - (t + 1))).1) (sN ps (Rise3.qb rl last (v - (t + 1))).1) ((Rise3.qb rl last (v - t)).2.1 + l)
      rw [show v - (t + 1) = v - 1 - t by omega]
      exact e3
  · rw [List.length_map, List.length_range]
    show (Rise3.qb rl last (v - (v - u))).1 = _
    rw [show v - (v - u) = u by omega]
    exact k1
  · rw [List.length_map, List.length_range]
    show _ ≤ (Rise3.qb rl last (v - (v - u))).2.1
    rw [show v - (v - u) = u by omega]
    have d : (lcmOf ps : Int) ∣ (Rise3.qb rl last u).2.1 - (Rise3.qb rl last v).2.1 := Int.dvd_of_emod_eq_zero (Int.emod_eq_emod_iff_emod_sub_eq_zero.mp k2)
    have := Int.le_of_dvd (by omega) d
    omega
theorem upv_fix {f s x : Int} (h : 0 < s) (on : (x - f) % s = 0) : upv f s x = x := by
  have a := upv_le (f := f) (x := x) h
  have b := upv_lt (f := f) (x := x) h
  have c := upv_on f s x
  have d : s ∣ upv f s x - x := by
    have h1 := Int.dvd_of_emod_eq_zero c
    have h2 := Int.dvd_of_emod_eq_zero on
    have := Int.dvd_sub h1 h2
    rwa [show upv f s x - f - (x - f) = upv f s x - x by omega] at this
  obtain ⟨q, hq⟩ := d
  have : q = 0 := by
    rcases Int.lt_trichotomy q 0 with z | z | z
    · have := Int.mul_le_mul_of_nonneg_left (show q ≤ -1 by omega) (show (0 : Int) ≤ s by omega)
      omega
    · exact z
    · have := Int.mul_le_mul_of_nonneg_left (show 1 ≤ q by omega) (show (0 : Int) ≤ s by omega)
      omega
  rw [this] at hq
  omega
theorem inV_ns {ws : List Str} {x : Str} : inV (.str x) (ws.map V.str) = decide (x ∈ ws) := by
  unfold inV
  induction ws with
  | nil => simp
  | cons y ws ih =>
    rw [List.map_cons, List.any_cons, ih]
    by_cases e : y = x
    · subst e
      simp [eqV]
    · have h1 : eqV (.str y) (.str x) = false := by
        cases h : eqV (V.str y) (V.str x) with
        | false => rfl
        | true => exact absurd (eqV_str.mp h) e
      rw [h1]
      have : ¬ x = y := fun z => e z.symm
      simp [this]
theorem flat_ns {ns : List Str} : (ns.map V.str).all flatV = true := List.all_eq_true.mpr fun v hv => by
  obtain ⟨z, _, rfl⟩ := List.mem_map.mp hv
  rfl
theorem eqv_tupJ (xs ys : List Int) : PyData.eqv (.tuple (xs.map PyData.int)) (.tuple (ys.map PyData.int)) = decide (xs = ys) := by
  simp [PyData.eqv, Rs.eqvAll_ints]
theorem shaped_tupJ (ks : List Int) : SeqAt.shaped (.tuple (ks.map PyData.int)) = true := by
  unfold SeqAt.shaped
  simp [PyData.canLay0, Rs.lay_ints, PyData.depth, Rs.depth_ints]
def spClkL : Sp := fun vs H Q _ => ∃ (PA : Addr) (as : List Addr) (ps : List Pt) (nm : Str) (i : Nat), vs = [.ref PA, .str nm] ∧ H PA = some (.lst (as.map V.ref)) ∧ Row ptV H as ps ∧ (namesOf ps).Nodup ∧ ps.length ≤ 100 ∧ (namesOf ps)[i]? = some nm ∧
  ∀ (T : Addr) (H' : Hp), Same H H' → H' T = some (.tup [.int (fN ps i), .int (sN ps i)]) → Q (.ref T) H'
def spLed (C : Addr) : Sp := fun vs H Q _ => ∃ (wd tr : Addr) (ps : List Pt) (rs : List Rl) (nm : Str) (ks : List Nat) (St : Nat → Nat × Int) (M : Nat), vs = [.ref wd, .str nm, .int (St 0).2, .ref tr] ∧ LWd C H wd ps rs ∧ Fits ps rs M ∧ H tr = some (.tup (natV ks)) ∧ (namesOf ps)[(St 0).1]? = some nm ∧ WalkW ps rs ks St ∧
  ∀ (T : Addr) (nm' : Str) (H' : Hp), Same H H' → (namesOf ps)[(St ks.length).1]? = some nm' → H' T = some (.tup [.str nm', .int (St ks.length).2]) → Q (.ref T) H'
def spIsR (C : Addr) : Sp := fun vs H Q _ => ∃ (wd t : Addr) (ps : List Pt) (rs : List Rl), vs = [.ref wd, .ref t] ∧ LWd C H wd ps rs ∧ Fits ps rs 420 ∧ (∀ p, p ∈ ps → p.2.2 ≤ 60) ∧ RingW H t ps rs ∧ ∀ H', Same H H' → Q (.bl true) H'
def spToldR (C : Addr) : Sp := fun vs H Q _ => ∃ (wd t : Addr) (ps : List Pt) (rs : List Rl), vs = [.ref wd, .ref t] ∧ LWd C H wd ps rs ∧ Fits ps rs 420 ∧ (∀ p, p ∈ ps → p.2.2 ≤ 60) ∧ RingW H t ps rs ∧ offOf ps ≤ 60 * ps.length ∧ ∀ H', Same H H' → Q (.bl true) H'
section
variable {P : Program} {w : World} {K : PySem.W.Frag} {mg : Str → Option Value} {base : Heap} {f C : Addr} {fd : FuncData}

theorem scClk : FnScope ["points", "name", "other", "first", "step"] ["points", "name"] (defScope sClk) := ⟨rfl, rfl, rfl, by decide +kernel, rfl, by decide +kernel, by decide +kernel⟩
theorem ok_clkL (F : Fun K "_law_clock" "_law_clock" sClk f fd) : FnG P w K mg base 1 f fd ["points", "name"] spClkL := by
  refine okG F scClk (fun vs H Q E h => ?_) (fun cdv A outer s H vs Q E hg hr h => ?_)
  · obtain ⟨PA, as, ps, nm, i, rfl, _⟩ := h
    rfl
  · obtain ⟨PA, as, ps, nm, i, rfl, hP, rowP, nd, few, en, k⟩ := h
    have hu64 := hr.units
    refine ⟨_, (pss_one (ps_ret (pe_ix ix_list (pe_lc (own := [("other", 2), ("first", 3), ("step", 4)]) (by rfl) scClk.nd (pi_list (pv 0)) (blkOk_by (N := ["points", "name", "other", "first", "step"]) (sc := defScope sClk) (by decide +kernel)) (fun _ _ _ _ _ => (pg_tk (K := K) (n := 3) rfl (by rfl) (pgs_cons (pg_name (i := 2) scClk.nd rfl (.inl rfl)) (pgs_cons (pg_name (i := 3) scClk.nd rfl (.inl rfl)) (pgs_cons (pg_name (i := 4) scClk.nd rfl (.inl rfl)) pgs_nil))) (by rfl) (by rfl))) (fun _ _ _ _ _ => (pts_one (pt_cmpR op_eq (pv 2) (pv 1) (nomark _)))) (fun _ _ _ _ _ => (pe_tup (pa_cons (pv 3) (pa_cons (pv 4) pa_nil))))) pe_int (fun _ _ => rfl)))), ?_⟩
    have las : (as.map V.ref).length = ps.length := by rw [List.length_map]; exact rowP.1
    have li : i < ps.length := by
      have := (List.getElem?_eq_some_iff.mp en).1
      rwa [List.length_map] at this
    refine ⟨_, rfl, PA, rfl, ⟨_, SqL.of hP⟩, fun D nD => ?_⟩
    refine lc_it walk_list (fun j M1 => Same H M1 ∧ ∃ L : List V, M1 D = some (.lst L) ∧ (j ≤ i → L = []) ∧ (i < j → ∃ T : Addr, L = [.ref T] ∧ M1 T = some (.tup [.int (fN ps i), .int (sN ps i)]))) ⟨same_new nD, [], upd_same, fun _ => rfl, fun z => absurd z (Nat.not_lt_zero i)⟩ (fun j M1 _ z => SqL.of (z.1 _ _ hP)) ?_ ?_
    · rintro j y M1 M2 hj ⟨s1, L, hD, l1, l2⟩ ⟨rfl, hy⟩
      have hip : j < ps.length := by rw [las] at hj; exact hj
      have ep := List.getElem?_eq_getElem hip
      have ea := List.getElem?_eq_getElem (show j < as.length by rw [rowP.1]; exact hip)
      obtain rfl := refA hy ea
      have pa := s1 _ _ (rowP.2 j _ _ ea ep)
      have ej : (namesOf ps)[j]? = some ps[j].1 := by rw [List.getElem?_map, ep]; rfl
      refine ⟨as[j]'(by rw [rowP.1]; exact hip), _, rfl, SqT.of pa, rfl, _, _, rfl, _, _, rfl, _, _, rfl, rfl, rfl, _, rfl, _, rfl, rfl, _, rfl, ?_⟩
      by_cases e : ps[j].1 = nm
      · have ji : j = i := name_uniq nd (by rw [ej, e]) en
        subst ji
        rw [decide_eq_true (show V.str ps[j].1 = V.str nm by rw [e])]
        cases l1 (Nat.le_refl _)
        refine iteT ⟨_, rfl, _, rfl, (by show 2 ≤ sizeLine; decide), fun T nT => ?_⟩
        have z := same_new (o := .tup [.int ps[j].2.1, .int ps[j].2.2]) nT
        refine ⟨_, z _ _ hD, by show 0 < sizeLine; decide, fun b o e2 => by rw [upd_ne (ne_of_none e2 nD)]; exact (s1.trans z) b o e2, [.ref T], by rw [upd_same]; rfl, fun z => absurd z (by omega), fun _ => ⟨T, rfl, ?_⟩⟩
        rw [upd_ne (ne_of_none hD nT).symm, upd_same, fN_at ep, sN_at ep]
      · rw [decide_eq_false (show ¬ V.str ps[j].1 = V.str nm by intro z; cases z; exact e rfl)]
        have ji : j ≠ i := fun z => e (by
          subst z
          rw [ej] at en
          exact Option.some.inj en)
        exact iteF ⟨s1, L, hD, fun z => l1 (by omega), fun z => l2 (by omega)⟩
    · rintro M1 ⟨s1, L, hD, _, l2⟩
      rw [las] at l2
      obtain ⟨T, rfl, hT⟩ := l2 li
      exact ⟨D, _, 0, _, rfl, rfl, SqL.of hD, atI_0, k T M1 s1 hT⟩

theorem scLed : FnScope ["world", "name", "number", "rules", "clocks", "k", "point"] ["world", "name", "number", "rules"] (defScope sLed) := ⟨rfl, rfl, rfl, by decide +kernel, rfl, by decide +kernel, by decide +kernel⟩
theorem ok_led (F : Fun K "_law_led" "_law_led" sLed f fd) (T : Lw mg) (zdict : mg "dict" = none) (cU : Cb P w K mg base 1 "_law_up" spLUpX) : FnG P w K mg base 2 f fd ["world", "name", "number", "rules"] (spLed C) := by
  refine okG F scLed (fun vs H Q E h => ?_) (fun cdv A outer s H vs Q E hg hr h => ?_)
  · obtain ⟨wd, tr, ps, rs, nm, ks, St, M, rfl, _⟩ := h
    rfl
  · obtain ⟨wd, tr, ps, rs, nm, ks, St, M, rfl, lw, fit, htr, en, wk, k⟩ := h
    have hu64 := hr.units
    have hu : _ + 1 < cLine := hu_of hr
    refine ⟨_, (pss_cons (ps_set (i := 4) scLed.nd rfl (.inl rfl) (pe_callTy (call_dictP rfl) (by rfl) zdict (by decide +kernel) (pa_cons (pe_lc (own := [("point", 6)]) (by rfl) scLed.nd (pi_list (pe_dget hu (pv 0) pe_str (fun _ _ => rfl))) (blkOk_by (N := ["world", "name", "number", "rules", "clocks", "k", "point"]) (sc := defScope sLed) (by decide +kernel)) (fun _ _ _ _ _ => (pg_name (i := 6) scLed.nd rfl (.inl rfl))) (fun _ _ _ _ _ => pts_nil) (fun _ _ _ _ _ => (pe_tup (pa_cons (pe_ix (ix_tup : IxR _ (rIxT K)) (pv 6) pe_int (fun _ _ => rfl)) (pa_cons (pe_slice (sl_tup : SlR _ (rSlT K)) (pv 6) (po_some pe_int) po_none) pa_nil))))) pa_nil)))
      (pss_cons (ps_for PassesOwn.never rfl (pi_tup (pv 3)) (pg_name (i := 5) scLed.nd rfl (.inl rfl))
        (pss_cons (ps_if (PW.pt (pw_or (pt_val (pe_callB call_isi (by rfl) T.zisinstance (by decide +kernel) (pa_cons (pv 5) (pa_cons (pe_bltn (v := .ty "bool") (by rfl) T.zbool (by decide +kernel) rfl) pa_nil)))) (pw_or (pt_not (pt_val (pe_callB call_isi (by rfl) T.zisinstance (by decide +kernel) (pa_cons (pv 5) (pa_cons (pe_bltn (v := .ty "int") (by rfl) T.zint (by decide +kernel) rfl) pa_nil))))) (pw_or1 (pt_not (pt_chain op_le op_lt pe_int (pv 5) (pe_callB call_len_seq (by rfl) T.zlen (by decide +kernel) (pa_cons (pe_dget hu (pv 0) pe_str (fun _ _ => rfl)) pa_nil)))))))) (pss_one (ps_ret pe_non)) pss_nil)
        (pss_cons (ps_if (pt_cmpR op_ne (pe_ix ix_tup (pe_ix ix_list (pe_dget hu (pv 0) pe_str (fun _ _ => rfl)) (pv 5) (fun _ _ => rfl)) pe_int (fun _ _ => rfl)) (pv 1) (nomark _)) (pss_one (ps_ret pe_non)) pss_nil)
        (pss_cons (ps_par (i := 1) (j := 2) rfl scLed.nd rfl rfl (by decide) rfl rfl (pa_cons (pe_ix ix_tup (pe_ix ix_list (pe_dget hu (pv 0) pe_str (fun _ _ => rfl)) (pv 5) (fun _ _ => rfl)) pe_int (fun _ _ => rfl)) (pa_cons (pe_op op_add (pv 2) (pe_ix ix_tup (pe_ix ix_list (pe_dget hu (pv 0) pe_str (fun _ _ => rfl)) (pv 5) (fun _ _ => rfl)) pe_int (fun _ _ => rfl))) pa_nil)) (by rfl))
        (pss_one (ps_set (i := 2) scLed.nd rfl (.inl rfl) (pe_k cU hg hr (by decide) (by rfl) (pa_cons (pe_dget hu (pv 4) (pv 1) (fun _ _ => rfl)) (pa_cons (pv 2) pa_nil)))))))))
      (pss_one (ps_ret (pe_tup (pa_cons (pv 1) (pa_cons (pv 2) pa_nil))))))), ?_⟩
    obtain ⟨PA, RA, n, as, bs, hwd, hP, hR, rowP, rowR, net⟩ := lw.ex
    have few := fit.good.few
    have nl : (namesOf ps).length = ps.length := List.length_map ..
    have las : (as.map V.ref).length = ps.length := by rw [List.length_map]; exact rowP.1
    have lbs : (bs.map V.ref).length = rs.length := by rw [List.length_map]; exact rowR.1
    have s3 : Same H H := Same.refl H
    -- clocks
    refine ⟨_, rfl, wd, _, rfl, getP hwd, PA, rfl, ⟨_, SqL.of (s3 _ _ hP)⟩, fun D nD => ?_⟩
    refine lc_it walk_list (fun i H4 => Same H H4 ∧ ∃ ts cs : List Addr, H4 D = some (.lst (ts.map V.ref)) ∧ Row prVV H4 ts (((namesOf ps).take i).zip (cs.map V.ref)) ∧ Row ckV H4 cs (ps.take i)) ⟨same_new nD, [], [], upd_same, ⟨by simp, fun _ _ _ z => by cases z⟩, rfl, fun _ _ _ z => by cases z⟩ (fun i H4 _ z => SqL.of (z.1 _ _ (s3 _ _ hP))) ?_ ?_
    · rintro i y H4 H5 hi ⟨s4, ts, cs, hD, row, rowc⟩ ⟨rfl, hy⟩
      have hip : i < ps.length := by rw [las] at hi; exact hi
      have ep := List.getElem?_eq_getElem hip
      have ea := List.getElem?_eq_getElem (show i < as.length by rw [rowP.1]; exact hip)
      obtain rfl := refA hy ea
      have s34 := s3.trans s4
      have pa := s34 _ _ (rowP.2 i _ _ ea ep)
      have ek : (namesOf ps)[i]? = some ps[i].1 := by rw [List.getElem?_map, ep]; rfl
      have lc : cs.length = i := by rw [rowc.1, List.length_take]; omega
      refine ⟨rfl, _, rfl, as[i]'(by rw [rowP.1]; exact hip), _, 0, _, rfl, rfl, SqT.of pa, rfl, _, rfl, 1, rfl, as[i]'(by rw [rowP.1]; exact hip), _, rfl, SqT.of pa, (by show ¬ (HT.sIx 3 0 (some 1) = 0 ∧ HT.sIx 3 3 none = 3); decide), fun t2 nt2 => ⟨(by show 2 ≤ sizeLine; decide), fun tp ntp => ?_⟩⟩
      have z1 := same_new (o := ckV ps[i]) nt2
      have z2 := same_new (o := prVV (ps[i].1, .ref t2)) ntp
      have z12 := z1.trans z2
      have hD6 := z12 _ _ hD
      refine ⟨_, hD6, small1000 (by rw [List.length_map, row.1, List.length_zip, List.length_take, nl]; omega), fun b o z => by rw [upd_ne (ne_of_none z nD)]; exact (s4.trans z12) b o z, ts ++ [tp], cs ++ [t2], ?_, ?_, ?_⟩
      · rw [upd_same, List.map_append]
        rfl
      · rw [List.take_succ, ek, List.map_append, List.zip_append (by rw [List.length_take, nl, List.length_map, lc]; omega)]
        refine Row.snoc ((row.same z12).but (fun b o z ne => by rw [upd_ne ne]; exact z) (row_not (row.same z12) hD6 (fun p z => by cases z))) ?_
        rw [upd_ne (ne_of_none (z1 _ _ hD) ntp).symm, upd_same]
        rfl
      · rw [List.take_succ, ep]
        refine Row.snoc ((rowc.same z12).but (fun b o z ne => by rw [upd_ne ne]; exact z) (row_not (rowc.same z12) hD6 (fun p z => by cases z))) ?_
        rw [upd_ne (ne_of_none hD nt2).symm]
        exact z2 _ _ upd_same
    rintro H4 ⟨s4, ts, cs, hD, row, rowc⟩
    rw [las, List.take_of_length_le (by omega)] at row
    rw [las, List.take_of_length_le (Nat.le_refl _)] at rowc
    have lcs : (cs.map V.ref).length = (namesOf ps).length := by rw [List.length_map, rowc.1, nl]
    refine ⟨D, ts, dictOf (namesOf ps) (cs.map V.ref), rfl, SqL.of hD, paired_rowV ts _ _ lcs row, fun CK nCK => ?_⟩
    rw [dictOf_merge lcs fit.good.nd]
    have z := same_new (o := .dK (dictOf (namesOf ps) (cs.map V.ref))) nCK
    have s5 := s4.trans z
    have rowc5 := rowc.same z
    have hCK := upd_same (H := H4) (a := CK) (o := .dK (dictOf (namesOf ps) (cs.map V.ref)))
    revert s5 rowc5 hCK
    generalize upd H4 CK (.dK (dictOf (namesOf ps) (cs.map V.ref))) = H5
    intro s5 rowc5 hCK
    clear z row rowc hD s4 nCK nD s3
    refine ⟨_, rfl, tr, rfl, ⟨_, SqT.of (s5 _ _ htr)⟩, ?_⟩
    refine for_it walk_tup (fun t σ H6 => ∃ (v5 v6 : Option V) (nm1 : Str), σ = [some (.ref wd), some (.str nm1), some (.int (St t).2), some (.ref tr), some (.ref CK), v5, v6] ∧ Same H5 H6 ∧ (namesOf ps)[(St t).1]? = some nm1) ⟨_, _, nm, rfl, Same.refl _, en⟩ (fun t σ H6 _ ⟨_, _, _, _, s6, _⟩ => SqT.of (s6 _ _ (s5 _ _ htr))) ?_ ?_
    · rintro t y σ H6 H7 ht ⟨v5, v6, nm1, rfl, s6, en1⟩ ⟨rfl, hy⟩
      have htk : t < ks.length := by unfold natV at ht; rw [List.length_map] at ht; exact ht
      have ek := List.getElem?_eq_getElem htk
      obtain ⟨l, ru, enx⟩ := wk.go t _ ek
      obtain rfl : V.int (ks[t] : Nat) = y := by
        have hy : (natV ks)[t]? = some y := hy
        unfold natV at hy
        rw [List.getElem?_map, ek] at hy
        exact Option.some.inj hy
      revert ru
      generalize ks[t] = kk
      intro ru
      have htk' := s5.trans s6
      refine name_step (σ' := [some (.ref wd), some (.str nm1), some (.int (St t).2), some (.ref tr), some (.ref CK), some (.int (kk : Nat)), v6]) rfl ?_
      have hk : kk < rs.length := by
        obtain ⟨r, e, _⟩ := ru
        exact (List.getElem?_eq_some_iff.mp e).1
      obtain ⟨rr, er, ei, ej, rfl⟩ := ru
      have eb := List.getElem?_eq_getElem (show kk < bs.length by rw [rowR.1]; exact hk)
      have pb := htk' _ _ (rowR.2 kk _ _ eb er)
      have hwd6 := htk' _ _ hwd
      have hR6 := htk' _ _ hR
      have atb : atI (bs.map V.ref) ((kk : Nat) : Int) = some (.ref (bs[kk]'(by rw [rowR.1]; exact hk))) := atI_nat (by rw [List.getElem?_map, eb]; rfl)
      obtain rfl : rr.1 = nm1 := by
        rw [en1] at ei
        exact (Option.some.inj ei).symm
      refine ⟨_, rfl, _, .ty "bool", _, .type "bool", false, rfl, .ty _, .base (.int _), kit_ty (by decide +kernel), false, rfl, iteF ?_⟩
      refine ⟨_, rfl, _, .ty "int", _, .type "int", true, rfl, .ty _, .base (.int _), kit_ty (by decide +kernel), true, rfl, iteF ?_⟩
      refine ⟨_, rfl, _, _, rfl, rfl, _, rfl, ?_⟩
      rw [if_pos (decide_eq_true (show (0 : Int) ≤ (kk : Nat) by omega))]
      refine ⟨_, rfl, wd, _, rfl, getR hwd6, RA, _, rfl, .inl (SqL.of hR6), _, _, rfl, rfl, ?_⟩
      refine ⟨true, congrArg V.bl (decide_eq_true (show ((kk : Nat) : Int) < ((bs.map V.ref).length : Nat) by rw [lbs]; omega)), iteF ?_⟩
      refine ⟨_, rfl, wd, _, rfl, getR hwd6, _, rfl, RA, _, _, _, rfl, rfl, SqL.of hR6, atb, bs[kk]'(by rw [rowR.1]; exact hk), _, 0, _, rfl, rfl, SqT.of pb, atI_0, _, rfl, rfl, _, rfl, ?_⟩
      rw [decide_eq_true rfl]
      refine iteF ?_
      refine ⟨_, rfl, wd, _, rfl, getR hwd6, _, rfl, RA, _, _, _, rfl, rfl, SqL.of hR6, atb, bs[kk]'(by rw [rowR.1]; exact hk), _, 1, _, rfl, rfl, SqT.of pb, rfl, ?_⟩
      refine ⟨_, rfl, _, rfl, wd, _, rfl, getR hwd6, _, rfl, RA, _, _, _, rfl, rfl, SqL.of hR6, atb, bs[kk]'(by rw [rowR.1]; exact hk), _, 2, _, rfl, rfl, SqT.of pb, rfl, _, _, rfl, rfl, ?_⟩
      refine ⟨_, _, rfl, ?_⟩
      have hj : (St (t + 1)).1 < ps.length := by
        have := (List.getElem?_eq_some_iff.mp ej).1
        rwa [List.length_map] at this
      have ep := List.getElem?_eq_getElem hj
      have ec := List.getElem?_eq_getElem (show (St (t + 1)).1 < cs.length by rw [rowc5.1]; exact hj)
      have hc := s6 _ _ (rowc5.2 _ _ _ ec ep)
      have sj := (fit.sd _ hj).1
      rw [sN_at ep] at sj
      rw [fN_at ep, sN_at ep] at enx
      have gc := getD (s6 _ _ hCK) fit.good.nd ej (show (cs.map V.ref)[(St (t + 1)).1]? = some (.ref (cs[(St (t + 1)).1]'(by rw [rowc5.1]; exact hj))) by rw [List.getElem?_map, ec]; rfl)
      refine ⟨_, rfl, _, rfl, CK, _, rfl, gc, _, rfl, _, ps[(St (t + 1)).1].2.1, ps[(St (t + 1)).1].2.2, _, rfl, hc, sj, ?_⟩
      rw [← enx]
      exact ⟨_, _, rr.2.1, rfl, s6, ej⟩
    rintro σ H6 ⟨v5, v6, nm1, rfl, s6, en1⟩
    rw [show (natV ks).length = ks.length by unfold natV; rw [List.length_map]] at en1
    refine ⟨_, rfl, _, rfl, (by show 2 ≤ sizeLine; decide), fun T2 nT2 => ?_⟩
    refine k T2 nm1 _ ((s5.trans s6).trans (same_new nT2)) en1 ?_
    rw [upd_same, show (natV ks).length = ks.length by unfold natV; rw [List.length_map]]

theorem scIsR : FnScope ["world", "value", "told", "point"] ["world", "value"] (defScope sIsR) := ⟨rfl, rfl, rfl, by decide +kernel, rfl, by decide +kernel, by decide +kernel⟩
theorem ok_isR (F : Fun K "_law_is_ring" "_law_is_ring" sIsR f fd) (T : Lw mg) (cU : Cb P w K mg base 1 "_law_up" spLUpX) (cClk : Cb P w K mg base 1 "_law_clock" spClkL) (cPer : Cb P w K mg base 1 "_law_period" spLPer) (cLed : Cb P w K mg base 2 "_law_led" (spLed C)) : FnG P w K mg base 3 f fd ["world", "value"] (spIsR C) := by
  refine okG F scIsR (fun vs H Q E h => ?_) (fun cdv A outer s H vs Q E hg hr h => ?_)
  · obtain ⟨wd, t, ps, rs, rfl, _⟩ := h
    rfl
  · obtain ⟨wd, t, ps, rs, rfl, lw, fit, s12, ring, k⟩ := h
    have hu64 := hr.units
    have hu : _ + 1 < cLine := hu_of hr
    refine ⟨_, (pss_cons (ps_if (PW.pt (pw_or (pt_not (pt_val (pe_callB call_isi (by rfl) T.zisinstance (by decide +kernel) (pa_cons (pv 1) (pa_cons (pe_bltn (v := .ty "tuple") (by rfl) T.ztuple (by decide +kernel) rfl) pa_nil))))) (pw_or (pt_cmpR op_ne (pe_callB call_len_seq (by rfl) T.zlen (by decide +kernel) (pa_cons (pv 1) pa_nil)) pe_int (nomark _)) (pw_or1 (pt_not (pt_val (pe_callB call_isi (by rfl) T.zisinstance (by decide +kernel) (pa_cons (pe_ix ix_tup (pv 1) pe_int (fun _ _ => rfl)) (pa_cons (pe_bltn (v := .ty "tuple") (by rfl) T.ztuple (by decide +kernel) rfl) pa_nil))))))))) (pss_one (ps_ret pe_bl)) pss_nil)
      (pss_cons (ps_if (PW.pt (pw_or (pt_not (pt_val (pe_callB call_isi (by rfl) T.zisinstance (by decide +kernel) (pa_cons (pe_ix ix_tup (pv 1) pe_int (fun _ _ => rfl)) (pa_cons (pe_bltn (v := .ty "str") (by rfl) T.zstr (by decide +kernel) rfl) pa_nil))))) (pw_or1 (pt_cmpR op_notIn_seq (pe_ix ix_tup (pv 1) pe_int (fun _ _ => rfl)) (pe_lc (own := [("point", 3)]) (by rfl) scIsR.nd (pi_list (pe_dget hu (pv 0) pe_str (fun _ _ => rfl))) (blkOk_by (N := ["world", "value", "told", "point"]) (sc := defScope sIsR) (by decide +kernel)) (fun _ _ _ _ _ => (pg_name (i := 3) scIsR.nd rfl (.inl rfl))) (fun _ _ _ _ _ => pts_nil) (fun _ _ _ _ _ => (pe_ix (ix_tup : IxR _ (rIxT K)) (pv 3) pe_int (fun _ _ => rfl)))) rfl)))) (pss_one (ps_ret pe_bl)) pss_nil)
      (pss_cons (ps_if (PW.pt (pw_or (pt_val (pe_callB call_isi (by rfl) T.zisinstance (by decide +kernel) (pa_cons (pe_ix ix_tup (pv 1) pe_int (fun _ _ => rfl)) (pa_cons (pe_bltn (v := .ty "bool") (by rfl) T.zbool (by decide +kernel) rfl) pa_nil)))) (pw_or1 (pt_not (pt_val (pe_callB call_isi (by rfl) T.zisinstance (by decide +kernel) (pa_cons (pe_ix ix_tup (pv 1) pe_int (fun _ _ => rfl)) (pa_cons (pe_bltn (v := .ty "int") (by rfl) T.zint (by decide +kernel) rfl) pa_nil)))))))) (pss_one (ps_ret pe_bl)) pss_nil)
      (pss_cons (ps_if (PW.pt (pw_or (pt_cmpR op_ne (pe_k cU hg hr (by decide) (by rfl) (pa_cons (pe_k cClk hg hr (by decide) (by rfl) (pa_cons (pe_dget hu (pv 0) pe_str (fun _ _ => rfl)) (pa_cons (pe_ix ix_tup (pv 1) pe_int (fun _ _ => rfl)) pa_nil))) (pa_cons (pe_ix ix_tup (pv 1) pe_int (fun _ _ => rfl)) pa_nil))) (pe_ix ix_tup (pv 1) pe_int (fun _ _ => rfl)) (nomark _)) (pw_or1 (pt_cmpR (op_eqD hu64) (pe_ix ix_tup (pv 1) pe_int (fun _ _ => rfl)) (pe_tup pa_nil) (nomark _))))) (pss_one (ps_ret pe_bl)) pss_nil)
      (pss_cons (ps_set (i := 2) scIsR.nd rfl (.inl rfl) (pe_k cLed hg hr (by decide) (by rfl) (pa_cons (pv 0) (pa_cons (pe_ix ix_tup (pv 1) pe_int (fun _ _ => rfl)) (pa_cons (pe_ix ix_tup (pv 1) pe_int (fun _ _ => rfl)) (pa_cons (pe_ix ix_tup (pv 1) pe_int (fun _ _ => rfl)) pa_nil))))))
      (pss_one (ps_ret (pe_and (pe_cmpR op_notN (pv 2) pe_non (nomark _)) (pe_and (pe_cmpR op_eq (pe_ix ix_tup (pv 2) pe_int (fun _ _ => rfl)) (pe_ix ix_tup (pv 1) pe_int (fun _ _ => rfl)) (nomark _)) (pe_one (pe_cmpR op_ge (pe_ix ix_tup (pv 2) pe_int (fun _ _ => rfl)) (pe_op op_add (pe_ix ix_tup (pv 1) pe_int (fun _ _ => rfl)) (pe_k cPer hg hr (by decide) (by rfl) (pa_cons (pe_dget hu (pv 0) pe_str (fun _ _ => rfl)) pa_nil))) (nomark _)))))))))))), ?_⟩
    obtain ⟨PA, RA, n, as, bs, hwd, hP, hR, rowP, rowR, net⟩ := lw.ex
    obtain ⟨nm, i, x, tr, ks, St, ht, htr, en, on, k0, kof, wk, st0, stn, gain⟩ := ring.ex
    have few := fit.good.few
    have nl : (namesOf ps).length = ps.length := List.length_map ..
    have las : (as.map V.ref).length = ps.length := by rw [List.length_map]; exact rowP.1
    refine ⟨_, rfl, _, .ty "tuple", _, .type "tuple", true, rfl, .ty _, .base (.tup ht), kit_ty (by decide +kernel), true, rfl, iteF ?_⟩
    refine ⟨_, rfl, t, _, rfl, .inr (SqT.of ht), rfl, _, rfl, iteF ?_⟩
    refine ⟨_, rfl, t, _, 2, _, rfl, rfl, SqT.of ht, rfl, _, .ty "tuple", _, .type "tuple", true, rfl, .ty _, .base (.tup htr), kit_ty (by decide +kernel), true, rfl, iteF ?_⟩
    refine ⟨_, rfl, t, _, 0, _, rfl, rfl, SqT.of ht, atI_0, _, .ty "str", _, .type "str", true, rfl, .ty _, .base (.str _), kit_ty (by decide +kernel), true, rfl, iteF ?_⟩
    refine ⟨_, rfl, t, _, 0, _, rfl, rfl, SqT.of ht, atI_0, _, rfl, wd, _, rfl, getP hwd, PA, rfl, ⟨_, SqL.of hP⟩, fun D nD => ?_⟩
    refine lc_it walk_list (fun j M1 => Same H M1 ∧ M1 D = some (.lst (((namesOf ps).take j).map V.str))) ⟨same_new nD, upd_same⟩ (fun j M1 _ z => SqL.of (z.1 _ _ hP)) ?_ ?_
    · rintro j y M1 M2 hj ⟨s1, hD⟩ ⟨rfl, hy⟩
      have hip : j < ps.length := by rw [las] at hj; exact hj
      have ep := List.getElem?_eq_getElem hip
      have ea := List.getElem?_eq_getElem (show j < as.length by rw [rowP.1]; exact hip)
      obtain rfl := refA hy ea
      have pa := s1 _ _ (rowP.2 j _ _ ea ep)
      refine ⟨rfl, _, rfl, as[j]'(by rw [rowP.1]; exact hip), _, 0, _, rfl, rfl, SqT.of pa, rfl, ?_⟩
      refine ⟨_, hD, small1000 (by rw [List.length_map, List.length_take]; omega), fun b o z => by rw [upd_ne (ne_of_none z nD)]; exact s1 b o z, ?_⟩
      rw [upd_same, List.take_succ, show (namesOf ps)[j]? = some ps[j].1 by rw [List.getElem?_map, ep]; rfl, List.map_append]
      rfl
    rintro M1 ⟨s1, hD⟩
    rw [las, List.take_of_length_le (by omega)] at hD
    refine ⟨D, _, rfl, .inl (SqL.of hD), rfl, flat_ns, ?_⟩
    rw [show (if true = true then !inV (V.str nm) ((namesOf ps).map V.str) else inV (V.str nm) ((namesOf ps).map V.str)) = !decide (nm ∈ namesOf ps) from congrArg (!·) inV_ns]
    rw [decide_eq_true (List.mem_of_getElem? en)]
    refine ⟨_, rfl, iteF ?_⟩
    have ht1 := s1 _ _ ht
    have htr1 := s1 _ _ htr
    refine ⟨_, rfl, t, _, 1, _, rfl, rfl, SqT.of ht1, rfl, _, .ty "bool", _, .type "bool", false, rfl, .ty _, .base (.int _), kit_ty (by decide +kernel), false, rfl, iteF ?_⟩
    refine ⟨_, rfl, t, _, 1, _, rfl, rfl, SqT.of ht1, rfl, _, .ty "int", _, .type "int", true, rfl, .ty _, .base (.int _), kit_ty (by decide +kernel), true, rfl, iteF ?_⟩
    have li : i < ps.length := by
      have := (List.getElem?_eq_some_iff.mp en).1
      rwa [List.length_map] at this
    have si := (fit.sd _ li).1
    refine ⟨_, rfl, wd, _, rfl, getP (s1 _ _ hwd), _, rfl, t, _, 0, _, rfl, rfl, SqT.of ht1, atI_0, PA, as, ps, nm, i, rfl, s1 _ _ hP, rowP.same s1, fit.good.nd, few, en, fun T2 M2 s2 hT2 => ?_⟩
    have ht2 := s2 _ _ ht1
    have htr2 := s2 _ _ htr1
    refine ⟨_, rfl, t, _, 1, _, rfl, rfl, SqT.of ht2, rfl, T2, _, _, x, rfl, hT2, si, ?_⟩
    rw [show upv (fN ps i) (sN ps i) x = x from upv_fix si on]
    refine ⟨_, rfl, t, _, 1, _, rfl, rfl, SqT.of ht2, rfl, rfl, _, rfl, ?_⟩
    rw [decide_eq_true rfl]
    refine iteF ?_
    have eN : natV ks = (ks.map fun (k : Nat) => (k : Int)).map V.int := by unfold natV; rw [List.map_map]; rfl
    refine ⟨_, rfl, t, _, 2, _, rfl, rfl, SqT.of ht2, rfl, (by show 0 ≤ sizeLine; decide), fun E1 nE1 => ?_⟩
    have z := same_new (o := .tup []) nE1
    refine ⟨.tuple ((ks.map fun (k : Nat) => (k : Int)).map PyData.int), .tuple (([] : List Int).map PyData.int), .tup (SqT.of (by rw [← eN]; exact z _ _ htr2)) (Rs.dpAll_ints _), .tup (SqT.of upd_same) .nil, shaped_tupJ _, shaped_tupJ _, ?_⟩
    rw [eqv_tupJ, decide_eq_false (fun h => by rw [List.map_eq_nil_iff] at h; rw [h] at k0; cases k0)]
    refine ⟨_, rfl, iteF ?_⟩
    have s3 := (s1.trans s2).trans z
    have ht3 := z _ _ ht2
    have htr3 := z _ _ htr2
    revert s3 ht3 htr3
    generalize upd M2 E1 (.tup []) = M3
    intro s3 ht3 htr3
    clear z nE1 hT2 ht2 htr2 s2 ht1 htr1 s1 hD nD
    refine ⟨_, rfl, _, rfl, t, _, 0, _, rfl, rfl, SqT.of ht3, atI_0, _, rfl, t, _, 1, _, rfl, rfl, SqT.of ht3, rfl, _, rfl, t, _, 2, _, rfl, rfl, SqT.of ht3, rfl, wd, tr, ps, rs, nm, ks, St, 420, by rw [st0]; rfl, lw.same s3, fit, htr3, by rw [st0]; exact en, wk, fun T4 nm4 M4 s4 en4 hT4 => ?_⟩
    rw [stn, en] at en4
    cases en4
    have ht4 := s4 _ _ ht3
    have s34 := s3.trans s4
    refine ⟨_, rfl, rfl, _, rfl, iteT ?_⟩
    refine ⟨_, rfl, T4, _, 0, _, rfl, rfl, SqT.of hT4, atI_0, _, rfl, t, _, 0, _, rfl, rfl, SqT.of ht4, atI_0, rfl, ?_⟩
    rw [decide_eq_true rfl]
    refine ⟨_, rfl, iteT ?_⟩
    refine ⟨_, rfl, T4, _, 1, _, rfl, rfl, SqT.of hT4, rfl, _, rfl, t, _, 1, _, rfl, rfl, SqT.of ht4, rfl, _, rfl, wd, _, rfl, getP (s34 _ _ hwd), PA, as, ps, rfl, s34 _ _ hP, rowP.same s34, fun p m => ⟨(fit.dv p m).1, s12 p m, (fit.dv p m).2⟩, fun M5 s5 => ?_⟩
    refine ⟨_, _, rfl, rfl, _, _, rfl, rfl, ?_⟩
    have fin := k M5 (s34.trans s5)
    show Q (V.bl (decide (x + ((lcmOf ps : Nat) : Int) ≤ (St ks.length).2))) M5
    rw [decide_eq_true gain]
    exact fin

theorem scToldR : FnScope ["world", "value"] ["world", "value"] (defScope sToldR) := ⟨rfl, rfl, rfl, by decide +kernel, rfl, by decide +kernel, by decide +kernel⟩
theorem ok_toldR (F : Fun K "_law_is_told_ring" "_law_is_told_ring" sToldR f fd) (T : Lw mg) (cIsR : Cb P w K mg base 3 "_law_is_ring" (spIsR C)) : FnG P w K mg base 4 f fd ["world", "value"] (spToldR C) := by
  refine okG F scToldR (fun vs H Q E h => ?_) (fun cdv A outer s H vs Q E hg hr h => ?_)
  · obtain ⟨wd, t, ps, rs, rfl, _⟩ := h
    rfl
  · obtain ⟨wd, t, ps, rs, rfl, lw, fit, s12, ring, off, k⟩ := h
    have hu64 := hr.units
    have hu : _ + 1 < cLine := hu_of hr
    refine ⟨_, (pss_one (ps_ret (pe_and (pe_k cIsR hg hr (by decide) (by rfl) (pa_cons (pv 0) (pa_cons (pv 1) pa_nil))) (pe_one (pe_cmpR op_le (pe_callB call_len_seq (by rfl) T.zlen (by decide +kernel) (pa_cons (pe_ix ix_tup (pv 1) pe_int (fun _ _ => rfl)) pa_nil)) (pe_op op_mul pe_int (pe_callB call_len_seq (by rfl) T.zlen (by decide +kernel) (pa_cons (pe_dget hu (pv 0) pe_str (fun _ _ => rfl)) pa_nil))) (nomark _)))))), ?_⟩
    obtain ⟨PA, RA, n, as, bs, hwd, hP, hR, rowP, rowR, net⟩ := lw.ex
    obtain ⟨nm, i, x, tr, ks, St, ht, htr, en, on, k0, kof, wk, st0, stn, gain⟩ := ring.ex
    have few := fit.good.few
    have las : (as.map V.ref).length = ps.length := by rw [List.length_map]; exact rowP.1
    refine ⟨_, rfl, _, rfl, wd, t, ps, rs, rfl, lw, fit, s12, ring, fun H1 s1 => ?_⟩
    refine ⟨_, rfl, iteT ?_⟩
    refine ⟨_, rfl, t, _, 2, _, rfl, rfl, SqT.of (s1 _ _ ht), rfl, tr, _, rfl, .inr (SqT.of (s1 _ _ htr)), _, rfl, wd, _, rfl, getP (s1 _ _ hwd), PA, _, rfl, .inl (SqL.of (s1 _ _ hP)), 60, (((as.map V.ref).length : Nat) : Int), rfl, rfl, ?_, _, _, rfl, rfl, ?_⟩
    · rw [las]
      exact .inl ⟨by decide, by decide⟩
    have le : (((natV ks).length : Nat) : Int) ≤ 60 * (((as.map V.ref).length : Nat) : Int) := by
      rw [las]
      unfold natV
      rw [List.length_map]
      omega
    show Q (V.bl (decide ((((natV ks).length : Nat) : Int) ≤ 60 * (((as.map V.ref).length : Nat) : Int)))) H1
    rw [decide_eq_true le]
    exact k H1 s1

end
end K14
namespace K14
open PySem PySem.Spec L2 Rt
open PyProof.Rows hiding St
/-! ### the networks of this law -/
def pnI (z : Int) : Str := ("p" : Str) ++ Str.ofString (toString z)
def pnL (n : Nat) : List Str := (List.range n).map fun i => pnI ((0 : Int) + (i : Nat))
def tenN : List Str := pnL 9 ++ [("zz" : Str)]
theorem ten_nd : tenN.Nodup := by decide +kernel
theorem ten_ok : tenN.all wordB = true := by decide +kernel
theorem pnL_take {n : Nat} (h : n ≤ 9) : pnL n = (pnL 9).take n := by
  unfold pnL
  rw [← List.map_take, List.take_range, Nat.min_eq_left h]
/-- the drawn points: names in order, steps of one, and one more point -/
structure PsP (n : Nat) (st : Int) (ps : List Pt) : Prop where
  n1 : 2 ≤ n
  n9 : n ≤ 9
  s1 : 1 ≤ st
  s60 : st ≤ 60
  sd : st.toNat ∣ 420
  len : ps.length = n + 1
  nms : namesOf ps = pnL n ++ [("zz" : Str)]
  one : ∀ p, p < n → sN ps p = 1
  last : sN ps n = st
theorem PsP.at_ {n : Nat} {st : Int} {ps : List Pt} (h : PsP n st ps) {i : Nat} (lt : i < n) : (namesOf ps)[i]? = some (pnI (i : Nat)) := by
  rw [h.nms, List.getElem?_append_left (by unfold pnL; rw [List.length_map, List.length_range]; exact lt)]
  unfold pnL
  rw [List.getElem?_map, List.getElem?_range lt]
  show some (pnI ((0 : Int) + (i : Nat))) = _
  rw [Int.zero_add]
theorem PsP.nd {n : Nat} {st : Int} {ps : List Pt} (h : PsP n st ps) : (namesOf ps).Nodup := by
  rw [h.nms, pnL_take h.n9]
  have t := ten_nd
  unfold tenN at t
  refine List.nodup_append.mpr ⟨(List.nodup_append.mp t).1.sublist (List.take_sublist _ _), List.nodup_cons.mpr ⟨List.not_mem_nil, List.nodup_nil⟩, fun a ha b hb => (List.nodup_append.mp t).2.2 a (List.mem_of_mem_take ha) b hb⟩
theorem PsP.word {n : Nat} {st : Int} {ps : List Pt} (h : PsP n st ps) {x : Str} (m : x ∈ namesOf ps) : Word x := by
  rw [h.nms, pnL_take h.n9] at m
  refine word_of (List.all_eq_true.mp ten_ok x ?_)
  unfold tenN
  rcases List.mem_append.mp m with m | m
  · exact List.mem_append_left _ (List.mem_of_mem_take m)
  · exact List.mem_append_right _ m
theorem PsP.step {n : Nat} {st : Int} {ps : List Pt} (h : PsP n st ps) : ∀ p, p ∈ ps → 1 ≤ p.2.2 ∧ p.2.2 ≤ 60 ∧ p.2.2.toNat ∣ 420 := fun p m => by
  obtain ⟨i, hi, e⟩ := List.mem_iff_getElem.mp m
  have ei := List.getElem?_eq_getElem hi
  rw [e] at ei
  have es := sN_at ei
  have l := h.len
  by_cases c : i < n
  · rw [h.one i c] at es
    rw [← es]
    exact ⟨by decide, by decide, by decide⟩
  · have : i = n := by omega
    subst this
    rw [h.last] at es
    rw [← es]
    exact ⟨h.s1, h.s60, h.sd⟩
/-- the drawn rules of the round -/
def rsP (ls : List Int) : List Rl := (List.range ls.length).map fun i => (pnI ((0 : Int) + (i : Nat)), pnI ((0 : Int) + (i : Nat) + 1), ls.getD i 0)
def rsO (n : Nat) (ls : List Int) (x : Int) : List Rl := rsP ls ++ [((pnI ((n : Nat) - 1), "p0", x) : Rl)]
theorem p0_is : ("p0" : Str) = pnI ((0 : Nat) : Int) := by decide +kernel
theorem rsO_at {n : Nat} {ls : List Int} {x : Int} (ll : ls.length + 1 = n) {k : Nat} {r : Rl} (h : (rsO n ls x)[k]? = some r) : (k < ls.length ∧ r = (pnI (k : Nat), pnI ((k + 1 : Nat)), ls.getD k 0)) ∨ (k = ls.length ∧ r = (pnI ((n - 1 : Nat)), pnI ((0 : Nat) : Int), x)) := by
  have lr : (rsP ls).length = ls.length := by unfold rsP; rw [List.length_map, List.length_range]
  unfold rsO at h
  rcases Nat.lt_or_ge k ls.length with lt | ge
  · rw [List.getElem?_append_left (by omega)] at h
    unfold rsP at h
    rw [List.getElem?_map, List.getElem?_range lt] at h
    have h : some (pnI ((0 : Int) + (k : Nat)), pnI ((0 : Int) + (k : Nat) + 1), ls.getD k 0) = some r := h
    rw [Int.zero_add] at h
    cases h
    exact .inl ⟨lt, rfl⟩
  · rw [List.getElem?_append_right (by omega), lr] at h
    have : k - ls.length = 0 := by
      rcases Nat.eq_zero_or_pos (k - ls.length) with z | z
      · exact z
      · rw [List.getElem?_eq_none (by simp; omega)] at h
        cases h
    rw [this] at h
    cases h
    refine .inr ⟨by omega, ?_⟩
    rw [p0_is, show ((n : Nat) : Int) - 1 = ((n - 1 : Nat) : Int) by omega]
theorem PsP.good {n : Nat} {st : Int} {ps : List Pt} (h : PsP n st ps) {ls : List Int} {x : Int} (ll : ls.length + 1 = n) : Good ps (rsO n ls x) := by
  have l := h.len
  have n9 := h.n9
  have n1 := h.n1
  refine ⟨fun p m => ⟨h.word (List.mem_map_of_mem m), (h.step p m).1, (h.step p m).2.1⟩, h.nd, by omega, fun r m => ?_, ?_⟩
  · obtain ⟨k, hk, e⟩ := List.mem_iff_getElem.mp m
    rcases rsO_at ll (show (rsO n ls x)[k]? = some r by rw [List.getElem?_eq_getElem hk, e]) with ⟨lt, rfl⟩ | ⟨rfl, rfl⟩
    · exact ⟨List.mem_of_getElem? (h.at_ (show k < n by omega)), List.mem_of_getElem? (h.at_ (show k + 1 < n by omega))⟩
    · exact ⟨List.mem_of_getElem? (h.at_ (show n - 1 < n by omega)), List.mem_of_getElem? (h.at_ (show 0 < n by omega))⟩
  · unfold rsO rsP
    rw [List.length_append, List.length_map, List.length_range]
    show ls.length + 1 ≤ 1000
    omega
theorem PsP.fit {n : Nat} {st : Int} {ps : List Pt} (h : PsP n st ps) {ls : List Int} {x : Int} (ll : ls.length + 1 = n) : Fits ps (rsO n ls x) 420 :=
  ⟨h.good ll, fun p m => ⟨(h.step p m).1, (h.step p m).2.2⟩, by decide, by decide⟩
theorem PsP.few {n : Nat} {st : Int} {ps : List Pt} (h : PsP n st ps) {ls : List Int} {x : Int} (ll : ls.length + 1 = n) : ps.length + (offOf ps + 3) * (rsO n ls x).length ≤ 900000 := by
  have h1 := (h.fit (x := x) ll).off_le
  have l := h.len
  have n9 := h.n9
  have lr : (rsO n ls x).length = n := by
    unfold rsO rsP
    rw [List.length_append, List.length_map, List.length_range]
    exact ll
  rw [lr]
  have h2 : (offOf ps + 3) * n ≤ 4203 * 9 := Nat.mul_le_mul (by omega) (by omega)
  omega
theorem PsP.off {n : Nat} {st : Int} {ps : List Pt} (h : PsP n st ps) : lcmOf ps ≤ 60 := by
  have l := h.len
  have d : lcmOf ps ∣ st.toNat := lcm_dvd ps 1 (Nat.one_dvd _) fun p m => by
    obtain ⟨i, hi, e⟩ := List.mem_iff_getElem.mp m
    have ei := List.getElem?_eq_getElem hi
    rw [e] at ei
    have es := sN_at ei
    by_cases c : i < n
    · rw [h.one i c] at es
      rw [← es]
      exact Nat.one_dvd _
    · have : i = n := by omega
      subst this
      rw [h.last] at es
      rw [← es]
      exact Nat.dvd_refl _
  have s1 := h.s1
  have s60 := h.s60
  have := Nat.le_of_dvd (by omega) d
  omega
/-- sums of the first so many -/
def pre (ls : List Int) (k : Nat) : Int := (ls.take k).sum
theorem pre_succ {ls : List Int} {k : Nat} (h : k < ls.length) : pre ls (k + 1) = pre ls k + ls.getD k 0 := by
  unfold pre
  rw [List.take_succ, List.getElem?_eq_getElem h, List.sum_append, List.getD_eq_getElem?_getD, List.getElem?_eq_getElem h]
  simp
theorem pre_all {ls : List Int} : pre ls ls.length = ls.sum := by
  unfold pre
  rw [List.take_length]
theorem idx_of {ps : List Pt} (nd : (namesOf ps).Nodup) {i j : Nat} {x : Str} (a : (namesOf ps)[i]? = some x) (b : (namesOf ps)[j]? = some x) : i = j := name_uniq nd a b
theorem PsP.tt {n : Nat} {st : Int} {ps : List Pt} (h : PsP n st ps) {ls : List Int} {x : Int} (ll : ls.length + 1 = n) (le : x + ls.sum ≤ 0) : TT ps (rsO n ls x) := by
  refine ⟨fun p => if p < n then pre ls p else fN ps p, fun p hp => ?_, fun k i j l r => ?_⟩
  · rw [h.len] at hp
    by_cases c : p < n
    · rw [h.one p c]
      exact Int.emod_one _
    · have : p = n := by omega
      subst this
      show ((if p < p then _ else fN ps p) - fN ps p) % _ = 0
      rw [if_neg (Nat.lt_irrefl p), Int.sub_self]
      exact Int.zero_emod _
  · obtain ⟨r, e1, e2, e3, rfl⟩ := r
    have n1 := h.n1
    rcases rsO_at ll e1 with ⟨lt, rfl⟩ | ⟨rfl, rfl⟩
    · rw [idx_of h.nd e2 (h.at_ (show k < n by omega)), idx_of h.nd e3 (h.at_ (show k + 1 < n by omega))]
      show (if k < n then pre ls k else _) + ls.getD k 0 ≤ (if k + 1 < n then pre ls (k + 1) else _)
      rw [if_pos (by omega), if_pos (by omega), pre_succ lt]
      exact Int.le_refl _
    · rw [idx_of h.nd e2 (h.at_ (show n - 1 < n by omega)), idx_of h.nd e3 (h.at_ (show 0 < n by omega))]
      show (if n - 1 < n then pre ls (n - 1) else _) + x ≤ (if 0 < n then pre ls 0 else _)
      rw [if_pos (by omega), if_pos (by omega), show n - 1 = ls.length by omega, pre_all]
      show ls.sum + x ≤ (0 : Int)
      omega
theorem PsP.no {n : Nat} {st : Int} {ps : List Pt} (h : PsP n st ps) {ls : List Int} {x : Int} (ll : ls.length + 1 = n) (gt : 0 < x + ls.sum) : ¬ TT ps (rsO n ls x) := fun ⟨X, kX⟩ => by
  have n1 := h.n1
  have lr : (rsP ls).length = ls.length := by unfold rsP; rw [List.length_map, List.length_range]
  have ru : ∀ k, k < ls.length → X k + ls.getD k 0 ≤ X (k + 1) := fun k lt => by
    refine kX.ru k k (k + 1) _ ⟨(pnI ((0 : Int) + (k : Nat)), pnI ((0 : Int) + (k : Nat) + 1), ls.getD k 0), ?_, ?_, ?_, rfl⟩
    · unfold rsO
      rw [List.getElem?_append_left (by omega)]
      unfold rsP
      rw [List.getElem?_map, List.getElem?_range lt]
      rfl
    · rw [Int.zero_add]
      exact h.at_ (by omega)
    · rw [Int.zero_add]
      exact h.at_ (show k + 1 < n by omega)
  have up : ∀ k, k ≤ ls.length → X 0 + pre ls k ≤ X k := fun k => by
    induction k with
    | zero =>
      intro _
      show X 0 + (0 : Int) ≤ X 0
      omega
    | succ k ih =>
      intro le
      have := ih (by omega)
      have := ru k (by omega)
      rw [pre_succ (by omega)]
      omega
  have a := up ls.length (Nat.le_refl _)
  rw [pre_all] at a
  have b := kX.ru ls.length (n - 1) 0 x ⟨(pnI ((n : Nat) - 1), "p0", x), ?_, ?_, ?_, rfl⟩
  · rw [show n - 1 = ls.length by omega] at b
    omega
  · show (rsP ls ++ [((pnI ((n : Nat) - 1), "p0", x) : Rl)])[ls.length]? = _
    rw [List.getElem?_append_right (by rw [lr]; exact Nat.le_refl _), lr, Nat.sub_self]
    rfl
  · rw [show ((n : Nat) : Int) - 1 = ((n - 1 : Nat) : Int) by omega]
    exact h.at_ (by omega)
  · rw [p0_is]
    exact h.at_ (by omega)
/-! the long row -/
def qnI (z : Int) : Str := ("q" : Str) ++ Str.ofString (toString z)
def psQ : List Pt := (List.range 40).map fun i => (qnI ((0 : Int) + (i : Nat)), ((0 : Int) + (i : Nat)) % 3, 1 + ((0 : Int) + (i : Nat)) % 3)
def rsQ : List Rl := (List.range 39).map fun i => (qnI ((0 : Int) + (i : Nat)), qnI ((0 : Int) + (i : Nat) + 1), 10 ^ 28 + ((0 : Int) + (i : Nat)))
def rsB (x : Int) : List Rl := rsQ ++ [(("q39", "q0", x) : Rl)]
theorem psQ_nd : (namesOf psQ).Nodup := by decide +kernel
theorem psQ_ok : psQ.all (fun p => wordB p.1 && decide (1 ≤ p.2.2) && decide (p.2.2 ≤ 60) && decide (p.2.2.toNat ∣ 420)) = true := by decide +kernel
theorem psQ_at : (List.range 39).all (fun k => ((rsQ[k]?).map fun r => (r.1, r.2.1)) == (((namesOf psQ)[k]?).bind fun a => ((namesOf psQ)[k + 1]?).map fun b => (a, b))) = true := by decide +kernel
theorem psQ_ends : (namesOf psQ)[39]? = some ("q39" : Str) ∧ (namesOf psQ)[0]? = some ("q0" : Str) := by decide +kernel
theorem nmQ {k : Nat} (h : k < 40) : (namesOf psQ)[k]? = some (qnI ((0 : Int) + (k : Nat))) := by
  show (psQ.map fun p => p.1)[k]? = _
  unfold psQ
  rw [List.map_map, List.getElem?_map, List.getElem?_range h]
  rfl
theorem fQ {k : Nat} (h : k < 40) : fN psQ k = ((k : Nat) : Int) % 3 ∧ sN psQ k = 1 + ((k : Nat) : Int) % 3 := by
  have e : psQ[k]? = some (qnI ((0 : Int) + (k : Nat)), ((0 : Int) + (k : Nat)) % 3, 1 + ((0 : Int) + (k : Nat)) % 3) := by
    unfold psQ
    rw [List.getElem?_map, List.getElem?_range h]
    rfl
  rw [fN_at e, sN_at e, Int.zero_add]
  exact ⟨rfl, rfl⟩
theorem rsQ_len : rsQ.length = 39 := by unfold rsQ; rw [List.length_map, List.length_range]
theorem rsQ_at {k : Nat} {r : Rl} (h : rsQ[k]? = some r) : k < 39 ∧ (namesOf psQ)[k]? = some r.1 ∧ (namesOf psQ)[k + 1]? = some r.2.1 ∧ r.2.2 = 10 ^ 28 + ((k : Nat) : Int) := by
  have lt : k < 39 := by
    have := (List.getElem?_eq_some_iff.mp h).1
    rwa [rsQ_len] at this
  unfold rsQ at h
  rw [List.getElem?_map, List.getElem?_range lt] at h
  cases h
  refine ⟨lt, nmQ (by omega), ?_, ?_⟩
  · rw [nmQ (by omega)]
    show some (qnI ((0 : Int) + ((k + 1 : Nat) : Int))) = some (qnI ((0 : Int) + (k : Nat) + 1))
    rw [show (0 : Int) + ((k + 1 : Nat) : Int) = (0 : Int) + (k : Nat) + 1 by omega]
  · show 10 ^ 28 + ((0 : Int) + (k : Nat)) = _
    rw [Int.zero_add]
theorem rsB_at {x : Int} {k : Nat} {r : Rl} (h : (rsB x)[k]? = some r) : (k < 39 ∧ (namesOf psQ)[k]? = some r.1 ∧ (namesOf psQ)[k + 1]? = some r.2.1 ∧ r.2.2 = 10 ^ 28 + ((k : Nat) : Int)) ∨ (k = 39 ∧ r = (("q39", "q0", x) : Rl)) := by
  unfold rsB at h
  rcases Nat.lt_or_ge k 39 with lt | ge
  · rw [List.getElem?_append_left (by rw [rsQ_len]; exact lt)] at h
    exact .inl (rsQ_at h)
  · rw [List.getElem?_append_right (by rw [rsQ_len]; exact ge), rsQ_len] at h
    have : k - 39 = 0 := by
      rcases Nat.eq_zero_or_pos (k - 39) with z | z
      · exact z
      · rw [List.getElem?_eq_none (by simp; omega)] at h
        cases h
    rw [this] at h
    cases h
    exact .inr ⟨by omega, rfl⟩
theorem psQ_len : psQ.length = 40 := by unfold psQ; rw [List.length_map, List.length_range]
theorem psQ_pt : ∀ p, p ∈ psQ → Word p.1 ∧ 1 ≤ p.2.2 ∧ p.2.2 ≤ 60 ∧ p.2.2.toNat ∣ 420 := fun p m => by
  have := List.all_eq_true.mp psQ_ok p m
  simp only [Bool.and_eq_true, decide_eq_true_eq] at this
  exact ⟨word_of this.1.1.1, this.1.1.2, this.1.2, this.2⟩
theorem goodB (x : Int) : Good psQ (rsB x) := by
  refine ⟨fun p m => ⟨(psQ_pt p m).1, (psQ_pt p m).2.1, (psQ_pt p m).2.2.1⟩, psQ_nd, by rw [psQ_len]; decide, fun r m => ?_, ?_⟩
  · obtain ⟨k, hk, e⟩ := List.mem_iff_getElem.mp m
    rcases rsB_at (show (rsB x)[k]? = some r by rw [List.getElem?_eq_getElem hk, e]) with ⟨_, a, b, _⟩ | ⟨_, rfl⟩
    · exact ⟨List.mem_of_getElem? a, List.mem_of_getElem? b⟩
    · exact ⟨List.mem_of_getElem? psQ_ends.1, List.mem_of_getElem? psQ_ends.2⟩
  · unfold rsB
    rw [List.length_append, rsQ_len]
    show 39 + 1 ≤ 1000
    decide
theorem goodQ : Good psQ rsQ := by
  refine ⟨fun p m => ⟨(psQ_pt p m).1, (psQ_pt p m).2.1, (psQ_pt p m).2.2.1⟩, psQ_nd, by rw [psQ_len]; decide, fun r m => ?_, by rw [rsQ_len]; decide⟩
  obtain ⟨k, hk, e⟩ := List.mem_iff_getElem.mp m
  obtain ⟨_, a, b, _⟩ := rsQ_at (show rsQ[k]? = some r by rw [List.getElem?_eq_getElem hk, e])
  exact ⟨List.mem_of_getElem? a, List.mem_of_getElem? b⟩
theorem fitB (x : Int) : Fits psQ (rsB x) 420 := ⟨goodB x, fun p m => ⟨(psQ_pt p m).2.1, (psQ_pt p m).2.2.2⟩, by decide, by decide⟩
theorem fitQ : Fits psQ rsQ 420 := ⟨goodQ, fun p m => ⟨(psQ_pt p m).2.1, (psQ_pt p m).2.2.2⟩, by decide, by decide⟩
theorem few_of {n o m c : Nat} (hn : n = 40) (h : o ≤ n * 420) (hm : m ≤ 40) (hc : c ≤ 3) : n + (o + c) * m ≤ 900000 := by
  subst hn
  have h2 : (o + c) * m ≤ 16803 * 40 := Nat.mul_le_mul (by omega) hm
  omega
theorem fewQ : psQ.length + (offOf psQ + 3) * rsQ.length ≤ 900000 := few_of psQ_len fitQ.off_le (by rw [rsQ_len]; decide) (Nat.le_refl _)
theorem rsB_len (x : Int) : (rsB x).length = 40 := by
  unfold rsB
  rw [List.length_append, rsQ_len]
  rfl
theorem fewB (x : Int) : psQ.length + (offOf psQ + 2) * (rsB x).length ≤ 900000 := few_of psQ_len fitQ.off_le (by rw [rsB_len]; exact Nat.le_refl _) (by decide)
/-- the least row from 0 on -/
def xq : Nat → Int
  | 0 => 0
  | k + 1 => upv (((k + 1 : Nat) : Int) % 3) (1 + ((k + 1 : Nat) : Int) % 3) (xq k + (10 ^ 28 + ((k : Nat) : Int)))
theorem xq_on : ∀ p, p < 40 → (xq p - fN psQ p) % sN psQ p = 0
  | 0, h => by
    rw [(fQ h).1, (fQ h).2]
    decide
  | p + 1, h => by
    rw [(fQ h).1, (fQ h).2]
    exact upv_on _ _ _
theorem xq_up (k : Nat) : xq k + (10 ^ 28 + ((k : Nat) : Int)) ≤ xq (k + 1) := upv_le (by omega)
theorem keepsQ {k i j : Nat} (e2 : (namesOf psQ)[i]? = (namesOf psQ)[k]?) (e3 : (namesOf psQ)[j]? = (namesOf psQ)[k + 1]?) (h : k < 39) : i = k ∧ j = k + 1 := by
  rw [nmQ (show k < 40 by omega)] at e2
  rw [nmQ (show k + 1 < 40 by omega)] at e3
  exact ⟨name_uniq psQ_nd e2 (nmQ (by omega)), name_uniq psQ_nd e3 (nmQ (by omega))⟩
theorem ttQ : TT psQ rsQ := by
  refine ⟨xq, fun p hp => xq_on p (by rw [psQ_len] at hp; exact hp), fun k i j l r => ?_⟩
  obtain ⟨r, e1, e2, e3, rfl⟩ := r
  obtain ⟨lt, a, b, c⟩ := rsQ_at e1
  obtain ⟨rfl, rfl⟩ := keepsQ (e2.trans a.symm) (e3.trans b.symm) lt
  rw [c]
  exact xq_up _
theorem ttB {x : Int} (h : xq 39 + x ≤ 0) : TT psQ (rsB x) := by
  refine ⟨xq, fun p hp => xq_on p (by rw [psQ_len] at hp; exact hp), fun k i j l r => ?_⟩
  obtain ⟨r, e1, e2, e3, rfl⟩ := r
  rcases rsB_at e1 with ⟨lt, a, b, c⟩ | ⟨rfl, rfl⟩
  · obtain ⟨rfl, rfl⟩ := keepsQ (e2.trans a.symm) (e3.trans b.symm) lt
    rw [c]
    exact xq_up _
  · rw [name_uniq psQ_nd e2 psQ_ends.1, name_uniq psQ_nd e3 psQ_ends.2]
    exact h
theorem back_le : xq 39 + (0 - 39 * 10 ^ 28 - 39 * 19 - 39 * 3) ≤ 0 := by decide +kernel
def tri : Nat → Int
  | 0 => 0
  | k + 1 => tri k + ((k : Nat) : Int)
theorem noB {x : Int} (h : 0 < 39 * 10 ^ 28 + tri 39 + x) : ¬ TT psQ (rsB x) := fun ⟨X, kX⟩ => by
  have ru : ∀ k, k < 39 → X k + (10 ^ 28 + ((k : Nat) : Int)) ≤ X (k + 1) := fun k lt => by
    have hk : k < rsQ.length := by rw [rsQ_len]; exact lt
    have e := List.getElem?_eq_getElem hk
    obtain ⟨_, a, b, c⟩ := rsQ_at e
    exact kX.ru k k (k + 1) _ ⟨rsQ[k], by unfold rsB; rw [List.getElem?_append_left hk]; exact e, a, b, c.symm⟩
  have up : ∀ k, k ≤ 39 → X 0 + (((k : Nat) : Int) * 10 ^ 28 + tri k) ≤ X k := fun k => by
    induction k with
    | zero =>
      intro _
      show X 0 + ((0 : Int) * 10 ^ 28 + 0) ≤ X 0
      omega
    | succ k ih =>
      intro le
      have a := ih (by omega)
      have b := ru k (by omega)
      show X 0 + (((k + 1 : Nat) : Int) * 10 ^ 28 + (tri k + ((k : Nat) : Int))) ≤ X (k + 1)
      omega
  have a := up 39 (Nat.le_refl _)
  have b := kX.ru 39 39 0 x ⟨("q39", "q0", x), by unfold rsB; rw [List.getElem?_append_right (by rw [rsQ_len]; exact Nat.le_refl _), rsQ_len]; rfl, psQ_ends.1, psQ_ends.2, rfl⟩
  omega
theorem none_gt : (0 : Int) < 39 * 10 ^ 28 + tri 39 + (0 - 39 * 10 ^ 28 - 39 * 19 + 1) := by decide +kernel

end K14
namespace K14
open PySem PySem.Spec L2 Rt
open PyProof.Rows hiding St

abbrev sLaw : Stmt := top 41
def spLaw (K : PySem.W.Frag) : Sp := fun vs H Q _ => ∃ (a : Addr) (ns : List Int), vs = [.ref a] ∧ SqL K H a (ns.map V.int) ∧ ns.length ≤ 63 ∧ ∀ H', Q (.bl true) H'
theorem steps_of {z : Int} (h : z ∈ ([1, 2, 5, 12, 30, 60] : List Int)) : 1 ≤ z ∧ z ≤ 60 ∧ z.toNat ∣ 420 := by
  simp only [List.mem_cons, List.not_mem_nil, or_false] at h
  rcases h with e | e | e | e | e | e <;> subst e <;> decide
/-- what stands all through a turn -/
structure TW (d c PA LA : Addr) (as : List Addr) (ps : List Pt) (ls : List Int) (H : Hp) : Prop where
  S : Src H d c
  pa : mask d c H PA = some (.lst (as.map V.ref))
  row : Row ptV (mask d c H) as ps
  la : mask d c H LA = some (.lst (ls.map V.int))
section
variable {d c PA LA : Addr} {as : List Addr} {ps : List Pt} {ls : List Int} {H H' : Hp}
theorem TW.keep (h : TW d c PA LA as ps ls H) (S : Src H' d c) (k : Keep d c H H') : TW d c PA LA as ps ls H' := ⟨S, mask_keep k _ _ h.pa, h.row.same (mask_keep k), mask_keep k _ _ h.la⟩
theorem TW.same (h : TW d c PA LA as ps ls H) (s : Same H H') : TW d c PA LA as ps ls H' := h.keep (h.S.same s) (Keep.of s)
end
theorem rsP_len (ls : List Int) : (rsP ls).length = ls.length := by unfold rsP; rw [List.length_map, List.length_range]
theorem few_text {z : Int} (h : z.natAbs < 10 ^ 40) : (Str.ofString (toString z)).length ≤ 41 := by
  rw [ofString_len]
  exact int_text_length_le10 (k := 40) (by decide) h
theorem p_len {z : Int} (h : z.natAbs < 10 ^ 40) : ("p" : Str).length + (Str.ofString (toString z)).length ≤ sizeLine := by
  have := few_text h
  rw [show ("p" : Str).length = 1 by decide +kernel, sizeLine_eq]
  omega
theorem q_len {z : Int} (h : z.natAbs < 10 ^ 40) : ("q" : Str).length + (Str.ofString (toString z)).length ≤ sizeLine := by
  have := few_text h
  rw [show ("q" : Str).length = 1 by decide +kernel, sizeLine_eq]
  omega
theorem bits_of {z : Int} (h : z.natAbs < 1000) : z.natAbs.log2 < 1920 := Nat.lt_of_le_of_lt (Nat.log2_le_self _) (by omega)
theorem nine_of {z : Int} (h : z.natAbs < 1000) : z.natAbs < 10 ^ 40 := Nat.lt_trans h (by decide)
theorem nms_of {n : Nat} {qs : List Pt} {far st : Int} (l : qs.length = n) (h : ∀ (j : Nat) (p : Pt), qs[j]? = some p → p.1 = pnI ((0 : Int) + (j : Nat)) ∧ p.2.2 = 1) : namesOf (qs ++ [(("zz", far, st) : Pt)]) = pnL n ++ [("zz" : Str)] := by
  show (qs ++ _).map (fun p : Pt => p.1) = _
  rw [List.map_append]
  congr 1
  refine List.ext_getElem? fun j => ?_
  unfold pnL
  rw [List.getElem?_map, List.getElem?_map]
  by_cases c : j < n
  · have e := List.getElem?_eq_getElem (show j < qs.length by omega)
    rw [e, List.getElem?_range c]
    show some (qs[j]'(by omega)).1 = some (pnI ((0 : Int) + (j : Nat)))
    rw [(h j _ e).1]
  · rw [List.getElem?_eq_none (by omega), List.getElem?_eq_none (by rw [List.length_range]; omega)]
    rfl
theorem PsP.of {n : Nat} {qs : List Pt} {far st : Int} (n1 : 2 ≤ n) (n9 : n ≤ 9) (hs : 1 ≤ st ∧ st ≤ 60 ∧ st.toNat ∣ 420) (l : qs.length = n) (h : ∀ (j : Nat) (p : Pt), qs[j]? = some p → p.1 = pnI ((0 : Int) + (j : Nat)) ∧ p.2.2 = 1) : PsP n st (qs ++ [(("zz", far, st) : Pt)]) := by
  refine ⟨n1, n9, hs.1, hs.2.1, hs.2.2, by rw [List.length_append, l]; rfl, nms_of l h, fun p hp => ?_, ?_⟩
  · have e := List.getElem?_eq_getElem (show p < qs.length by omega)
    rw [sN_at (show (qs ++ [(("zz", far, st) : Pt)])[p]? = some (qs[p]'(by omega)) by rw [List.getElem?_append_left (by omega)]; exact e)]
    exact (h p _ e).2
  · exact sN_at (q := ("zz", far, st)) (by rw [List.getElem?_append_right (by omega), l, Nat.sub_self]; rfl)
theorem row_msk {d c : Addr} {H : Hp} {as : List Addr} {rs : List Rl} (r : Row rlV H as rs) (S : Src H d c) : Row rlV (mask d c H) as rs := ⟨r.1, fun i a p h1 h2 => mask_at (S.nd (r.2 i a p h1 h2)) (r.2 i a p h1 h2)⟩
theorem row_mskP {d c : Addr} {H : Hp} {as : List Addr} {ps : List Pt} (r : Row ptV H as ps) (S : Src H d c) : Row ptV (mask d c H) as ps := ⟨r.1, fun i a p h1 h2 => mask_at (S.nd (r.2 i a p h1 h2)) (r.2 i a p h1 h2)⟩
theorem off60_of {n : Nat} {st : Int} {ps : List Pt} (h : PsP n st ps) {ls : List Int} {x : Int} (ll : ls.length + 1 = n) : offOf ps ≤ 60 * ps.length := by
  have h1 : offOf ps ≤ ps.length * lcmOf ps := off_le _ fun q hq => ((h.fit (x := x) ll).sd q hq).1
  have h2 := Nat.mul_le_mul_left ps.length h.off
  omega
theorem same_net {H : Hp} {x dx C : Addr} (nx : H x = none) (ndx : H dx = none) (ne : dx ≠ x) : Same H (upd (upd H dx (.own x)) x (.ins C dx [])) := (same_new ndx).trans (same_new (by rw [upd_ne ne.symm]; exact nx))
/-- rows with holes as plain data -/
def oD : Option Int → PyData
  | some x => .int x
  | none => .none
theorem dpAll_os {K : PySem.W.Frag} {H : Hp} : ∀ ks : List (Option Int), DpAll K H (ks.map iV) (ks.map oD)
  | [] => .nil
  | none :: ks => .cons .non (dpAll_os ks)
  | some k :: ks => .cons (.int k) (dpAll_os ks)
theorem lay_os : ∀ ks : List (Option Int), PyData.canLayAll0 (ks.map oD) = true
  | [] => by simp [PyData.canLayAll0]
  | none :: ks => by
    have h := lay_os ks
    simp [PyData.canLayAll0, PyData.canLay0, oD, h]
  | some k :: ks => by
    have h := lay_os ks
    simp [PyData.canLayAll0, PyData.canLay0, oD, h]
theorem depth_os : ∀ ks : List (Option Int), PyData.depthAll (ks.map oD) = 0
  | [] => by simp [PyData.depthAll]
  | none :: ks => by
    have h := depth_os ks
    simp [PyData.depthAll, PyData.depth, oD, h]
  | some k :: ks => by
    have h := depth_os ks
    simp [PyData.depthAll, PyData.depth, oD, h]
theorem eqvAll_os : ∀ xs : List (Option Int), PyData.eqvAll (xs.map oD) (xs.map oD) = true
  | [] => by simp [PyData.eqvAll]
  | none :: xs => by
    have h := eqvAll_os xs
    simp [PyData.eqvAll, PyData.eqv, oD, h]
  | some x :: xs => by
    have h := eqvAll_os xs
    simp [PyData.eqvAll, PyData.eqv, oD, h]
theorem eqv_lstO (xs : List (Option Int)) : PyData.eqv (.list (xs.map oD)) (.list (xs.map oD)) = true := by
  simp [PyData.eqv, eqvAll_os]
theorem shaped_lstO (ks : List (Option Int)) : SeqAt.shaped (.list (ks.map oD)) = true := by
  unfold SeqAt.shaped
  simp [PyData.canLay0, lay_os, PyData.depth, depth_os]
/-- the same with a world -/
structure TV (d c PA LA : Addr) (as : List Addr) (ps : List Pt) (ls : List Int) (wd : Addr) (rs : List Rl) (H : Hp) : Prop where
  t : TW d c PA LA as ps ls H
  lw : LW2 (mask d c H) wd ps rs
theorem LW2.same {M M' : Hp} {wd : Addr} {ps : List Pt} {rs : List Rl} (h : LW2 M wd ps rs) (s : Same M M') : LW2 M' wd ps rs := by
  obtain ⟨PA, RA, kvs, as, bs, h1, h2, h3, h4, h5, h6, h7⟩ := h.ex
  exact ⟨PA, RA, kvs, as, bs, s _ _ h1, h2, h3, s _ _ h4, s _ _ h5, h6.same s, h7.same s⟩
section
variable {d c PA LA : Addr} {as : List Addr} {ps : List Pt} {ls : List Int} {wd : Addr} {rs : List Rl} {H H' : Hp}
theorem TV.keep (h : TV d c PA LA as ps ls wd rs H) (S : Src H' d c) (k : Keep d c H H') : TV d c PA LA as ps ls wd rs H' := ⟨h.t.keep S k, h.lw.same (mask_keep k)⟩
theorem TV.same (h : TV d c PA LA as ps ls wd rs H) (s : Same H H') : TV d c PA LA as ps ls wd rs H' := h.keep (h.t.S.same s) (Keep.of s)
end
def fsQ : List (Option Int) := some (0 - 10 ^ 30) :: List.replicate 39 none
theorem fsQ_len : fsQ.length = psQ.length := by rw [psQ_len]; rfl
theorem fsQ_is : [V.int (0 - 10 ^ 30)] ++ (List.replicate 39 [V.non]).flatten = fsQ.map iV := by decide +kernel
theorem merge2K {x y : V} : mergeK [] [((Sum.inr ("points" : Str) : Key), x), (Sum.inr ("rules" : Str), y)] = [(Sum.inr ("points" : Str), x), (Sum.inr ("rules" : Str), y)] := merge2 (by decide +kernel)

section
variable {P : Program} {w : World} {K : PySem.W.Frag} {mg : Str → Option Value} {base : Heap} {f C : Addr} {fd : FuncData}

theorem scLaw : FnScope ["script", "source", "turn", "step", "many", "far", "points", "leaps", "over", "rules", "world", "ring", "made", "floors", "told", "back", "none", "k", "point"] ["script"] (defScope sLaw) := ⟨rfl, rfl, rfl, by decide +kernel, rfl, by decide +kernel, by decide +kernel⟩
theorem ok_law (F : Fun K "law" "law" sLaw f fd) (T : Lw mg) (zsum : mg "sum" = none) (mk : Mkr P w K mg base 4 C "Network" (spInit C)) (cSrc : Cb P w K mg base 1 "_law_source" (spSource K)) (cO : Cb P w K mg base 2 "_law_of" spOf) (cP : Cb P w K mg base 1 "_law_pick" spPick)
    (cFR : Cb P w K mg base 7 "find_ring" (spFRO C)) (cHT : Cb P w K mg base 8 "has_timetable" (spHT C)) (cTold : Cb P w K mg base 4 "_law_is_told_ring" (spToldR C)) (cRs : Cb P w K mg base 2 "_law_raised" (spRaisedO C)) (cEar : Cb P w K mg base 8 "earliest" (spForcedO C)) (cFor : Cb P w K mg base 7 "forced" (spForcedO C)) : FnG P w K mg base 9 f fd ["script"] (spLaw K) := by
  refine okG F scLaw (fun vs H Q E h => ?_) (fun cdv A outer s H vs Q E hg hr h => ?_)
  · obtain ⟨a, ns, rfl, _⟩ := h
    rfl
  · obtain ⟨a, ns, rfl, hS, hl, kend⟩ := h
    have hu64 := hr.units
    have hu : _ + 1 < cLine := hu_of hr
    refine ⟨_, (pss_cons (ps_set (i := 1) scLaw.nd rfl (.inr rfl) (pe_k cSrc hg hr (by decide) (by rfl) (pa_cons (pv 0) pa_nil)))
      (pss_cons (ps_for PassesOwn.never rfl (pi_range1 (by rfl) T.zrange (pa_cons pe_int pa_nil)) (pg_name (i := 2) scLaw.nd rfl (.inl rfl))
        (pss_cons (ps_par (i := 3) (j := 4) rfl scLaw.nd rfl rfl (by decide) rfl rfl (pa_cons (pe_k cO hg hr (by decide) (by rfl) (pa_cons (pv 1) (pa_cons (pe_lst (pa_cons pe_int (pa_cons pe_int (pa_cons pe_int (pa_cons pe_int (pa_cons pe_int (pa_cons pe_int pa_nil))))))) pa_nil))) (pa_cons (pe_op op_add pe_int (pe_k cP hg hr (by decide) (by rfl) (pa_cons (pv 1) (pa_cons pe_int pa_nil)))) pa_nil)) (by rfl))
        (pss_cons (ps_set (i := 5) scLaw.nd rfl (.inr rfl) (pe_op op_add (pe_k cO hg hr (by decide) (by rfl) (pa_cons (pv 1) (pa_cons (pe_lst (pa_cons pe_int (pa_cons (pe_op op_pow pe_int pe_int) (pa_cons (pe_op op_sub pe_int (pe_op op_pow pe_int pe_int)) pa_nil)))) pa_nil))) (pe_k cP hg hr (by decide) (by rfl) (pa_cons (pv 1) (pa_cons pe_int pa_nil)))))
        (pss_cons (ps_set (i := 6) scLaw.nd rfl (.inl rfl) (pe_op op_cat (pe_lc (own := [("k", 17)]) (by rfl) scLaw.nd (pi_range1 (by rfl) T.zrange (pa_cons (pv 4) pa_nil)) (blkOk_by (N := ["script", "source", "turn", "step", "many", "far", "points", "leaps", "over", "rules", "world", "ring", "made", "floors", "told", "back", "none", "k", "point"]) (sc := defScope sLaw) (by decide +kernel)) (fun _ _ _ _ _ => (pg_name (i := 17) scLaw.nd rfl (.inl rfl))) (fun _ _ _ _ _ => pts_nil) (fun _ _ _ _ _ => (pe_tup (pa_cons (pe_op op_add_str pe_str (pe_callB SkE.call_repr_int (by rfl) T.zrepr (by decide +kernel) (pa_cons (pv 17) pa_nil))) (pa_cons (pe_op op_add (pv 5) (pe_k cP hg hr (by decide) (by rfl) (pa_cons (pv 1) (pa_cons pe_int pa_nil)))) (pa_cons pe_int pa_nil)))))) (pe_lst (pa_cons (pe_tup (pa_cons pe_str (pa_cons (pv 5) (pa_cons (pv 3) pa_nil)))) pa_nil))))
        (pss_cons (ps_set (i := 7) scLaw.nd rfl (.inr rfl) (pe_lc (own := [("k", 17)]) (by rfl) scLaw.nd (pi_range1 (by rfl) T.zrange (pa_cons (pe_op op_sub (pv 4) pe_int) pa_nil)) (blkOk_by (N := ["script", "source", "turn", "step", "many", "far", "points", "leaps", "over", "rules", "world", "ring", "made", "floors", "told", "back", "none", "k", "point"]) (sc := defScope sLaw) (by decide +kernel)) (fun _ _ _ _ _ => (pg_name (i := 17) scLaw.nd rfl (.inl rfl))) (fun _ _ _ _ _ => pts_nil) (fun _ _ _ _ _ => (pe_op op_add (pe_op op_sub (pe_k cP hg hr (by decide) (by rfl) (pa_cons (pv 1) (pa_cons pe_int pa_nil))) pe_int) (pe_k cO hg hr (by decide) (by rfl) (pa_cons (pv 1) (pa_cons (pe_lst (pa_cons pe_int (pa_cons (pe_op op_pow pe_int pe_int) pa_nil))) pa_nil)))))))
        (pss_cons (ps_for PassesOwn.never rfl (pi_list (pe_lst (pa_cons pe_int (pa_cons pe_int pa_nil)))) (pg_name (i := 8) scLaw.nd rfl (.inl rfl))
          (pss_cons (ps_setLc (i := 9) (own := [("k", 17)]) rfl scLaw.nd rfl rfl (sw_true rfl rfl rfl (by decide +kernel)) (pi_range1 (by rfl) T.zrange (pa_cons (pe_op op_sub (pv 4) pe_int) pa_nil)) (blkOk_by (N := ["script", "source", "turn", "step", "many", "far", "points", "leaps", "over", "rules", "world", "ring", "made", "floors", "told", "back", "none", "k", "point"]) (sc := defScope sLaw) (by decide +kernel)) (fun _ _ _ _ _ => (pg_name (i := 17) scLaw.nd rfl (.inl rfl))) (fun _ _ _ _ _ => pts_nil) (fun _ _ _ _ _ => (pe_tup (pa_cons (pe_op op_add_str pe_str (pe_callB SkE.call_repr_int (by rfl) T.zrepr (by decide +kernel) (pa_cons (pv 17) pa_nil))) (pa_cons (pe_op op_add_str pe_str (pe_callB SkE.call_repr_int (by rfl) T.zrepr (by decide +kernel) (pa_cons (pe_op op_add (pv 17) pe_int) pa_nil))) (pa_cons (pe_ix (ix_list : IxR _ (rIxL K)) (pv 7) (pv 17) (fun _ _ => rfl)) pa_nil))))))
          (pss_cons (ps_set (i := 9) scLaw.nd rfl (.inl rfl) (pe_op op_cat (pv 9) (pe_lst (pa_cons (pe_tup (pa_cons (pe_op op_add_str pe_str (pe_callB SkE.call_repr_int (by rfl) T.zrepr (by decide +kernel) (pa_cons (pe_op op_sub (pv 4) pe_int) pa_nil))) (pa_cons pe_str (pa_cons (pe_op op_sub (pv 8) (pe_callB (cr_sum (by rfl)) (by rfl) zsum (by decide +kernel) (pa_cons (pv 7) pa_nil))) pa_nil)))) pa_nil))))
          (pss_cons (ps_set (i := 10) scLaw.nd rfl (.inl rfl) (pe_disp (pps_cons pe_str (pv 6) (pps_cons pe_str (pv 9) (pps_cons pe_str (pe_mkr mk hr (by decide) (by rfl) (pa_cons (pv 6) (pa_cons (pv 9) pa_nil))) pps_nil))) (by rfl) (by rfl) (fun z => by cases z) (by decide)))
          (pss_cons (ps_set (i := 11) scLaw.nd rfl (.inl rfl) (pe_k cFR hg hr (by decide) (by rfl) (pa_cons (pe_dget hu (pv 10) pe_str (fun _ _ => rfl)) pa_nil)))
          (pss_one (ps_if (PW.pt (pw_or (pt_cmpR op_ne (pe_cmpR op_isN (pv 11) pe_non (nomark _)) (pe_cmpR op_eq (pv 8) pe_int (nomark _)) (nomark _)) (pw_or1 (PW.pt (pw_and (pt_cmpR op_notN (pv 11) pe_non (nomark _)) (pw_and1 (pt_not (pt_val (pe_k cTold hg hr (by decide) (by rfl) (pa_cons (pv 10) (pa_cons (pv 11) pa_nil))))))))))) (pss_one (ps_ret pe_bl)) pss_nil)))))))
        (pss_cons (ps_setLc (i := 9) (own := [("k", 17)]) rfl scLaw.nd rfl rfl (sw_true rfl rfl rfl (by decide +kernel)) (pi_range1 (by rfl) T.zrange (pa_cons (pe_op op_sub (pv 4) pe_int) pa_nil)) (blkOk_by (N := ["script", "source", "turn", "step", "many", "far", "points", "leaps", "over", "rules", "world", "ring", "made", "floors", "told", "back", "none", "k", "point"]) (sc := defScope sLaw) (by decide +kernel)) (fun _ _ _ _ _ => (pg_name (i := 17) scLaw.nd rfl (.inl rfl))) (fun _ _ _ _ _ => pts_nil) (fun _ _ _ _ _ => (pe_tup (pa_cons (pe_op op_add_str pe_str (pe_callB SkE.call_repr_int (by rfl) T.zrepr (by decide +kernel) (pa_cons (pv 17) pa_nil))) (pa_cons (pe_op op_add_str pe_str (pe_callB SkE.call_repr_int (by rfl) T.zrepr (by decide +kernel) (pa_cons (pe_op op_add (pv 17) pe_int) pa_nil))) (pa_cons (pe_ix (ix_list : IxR _ (rIxL K)) (pv 7) (pv 17) (fun _ _ => rfl)) pa_nil))))))
        (pss_cons (ps_set (i := 10) scLaw.nd rfl (.inl rfl) (pe_disp (pps_cons pe_str (pv 6) (pps_cons pe_str (pe_op op_cat (pv 9) (pe_lst (pa_cons (pe_tup (pa_cons (pe_op op_add_str pe_str (pe_callB SkE.call_repr_int (by rfl) T.zrepr (by decide +kernel) (pa_cons (pe_op op_sub (pv 4) pe_int) pa_nil))) (pa_cons pe_str (pa_cons (pe_op op_sub pe_int (pe_callB (cr_sum (by rfl)) (by rfl) zsum (by decide +kernel) (pa_cons (pv 7) pa_nil))) pa_nil)))) pa_nil))) (pps_cons pe_str pe_non pps_nil))) (by rfl) (by rfl) (fun z => by cases z) (by decide)))
        (pss_cons (ps_par (i := 12) (j := 13) rfl scLaw.nd rfl rfl (by decide) rfl rfl (pa_cons (pe_mkr mk hr (by decide) (by rfl) (pa_cons (pv 6) (pa_cons (pe_dget hu (pv 10) pe_str (fun _ _ => rfl)) pa_nil))) (pa_cons (pe_lc (own := [("point", 18)]) (by rfl) scLaw.nd (pi_list (pv 6)) (blkOk_by (N := ["script", "source", "turn", "step", "many", "far", "points", "leaps", "over", "rules", "world", "ring", "made", "floors", "told", "back", "none", "k", "point"]) (sc := defScope sLaw) (by decide +kernel)) (fun _ _ _ _ _ => (pg_name (i := 18) scLaw.nd rfl (.inl rfl))) (fun _ _ _ _ _ => pts_nil) (fun _ _ _ _ _ => (pe_op op_sub (pe_op op_add (pv 5) (pe_k cP hg hr (by decide) (by rfl) (pa_cons (pv 1) (pa_cons pe_int pa_nil)))) pe_int))) pa_nil)) (by rfl))
        (pss_one (ps_if (PW.pt (pw_or (pt_cmpR (op_neD hu64) (pe_callTy call_list_of (by rfl) T.zlist (by decide +kernel) (pa_cons (pe_k cEar hg hr (by decide) (by rfl) (pa_cons (pv 12) (pa_cons (pv 13) pa_nil))) pa_nil)) (pe_k cRs hg hr (by decide) (by rfl) (pa_cons (pv 10) (pa_cons (pv 13) pa_nil))) (nomark _)) (pw_or1 (pt_not (pt_val (pe_k cHT hg hr (by decide) (by rfl) (pa_cons (pv 12) pa_nil))))))) (pss_one (ps_ret pe_bl)) pss_nil)))))))))))
      (pss_cons (ps_setLc (i := 6) (own := [("k", 17)]) rfl scLaw.nd rfl rfl (sw_true rfl rfl rfl (by decide +kernel)) (pi_range1 (by rfl) T.zrange (pa_cons pe_int pa_nil)) (blkOk_by (N := ["script", "source", "turn", "step", "many", "far", "points", "leaps", "over", "rules", "world", "ring", "made", "floors", "told", "back", "none", "k", "point"]) (sc := defScope sLaw) (by decide +kernel)) (fun _ _ _ _ _ => (pg_name (i := 17) scLaw.nd rfl (.inl rfl))) (fun _ _ _ _ _ => pts_nil) (fun _ _ _ _ _ => (pe_tup (pa_cons (pe_op op_add_str pe_str (pe_callB SkE.call_repr_int (by rfl) T.zrepr (by decide +kernel) (pa_cons (pv 17) pa_nil))) (pa_cons (pe_op op_mod (pe_callTy call_int1 (by rfl) T.zint (by decide +kernel) (pa_cons (pv 17) pa_nil)) pe_int) (pa_cons (pe_op op_add pe_int (pe_op op_mod (pe_callTy call_int1 (by rfl) T.zint (by decide +kernel) (pa_cons (pv 17) pa_nil)) pe_int)) pa_nil))))))
      (pss_cons (ps_setLc (i := 9) (own := [("k", 17)]) rfl scLaw.nd rfl rfl (sw_true rfl rfl rfl (by decide +kernel)) (pi_range1 (by rfl) T.zrange (pa_cons pe_int pa_nil)) (blkOk_by (N := ["script", "source", "turn", "step", "many", "far", "points", "leaps", "over", "rules", "world", "ring", "made", "floors", "told", "back", "none", "k", "point"]) (sc := defScope sLaw) (by decide +kernel)) (fun _ _ _ _ _ => (pg_name (i := 17) scLaw.nd rfl (.inl rfl))) (fun _ _ _ _ _ => pts_nil) (fun _ _ _ _ _ => (pe_tup (pa_cons (pe_op op_add_str pe_str (pe_callB SkE.call_repr_int (by rfl) T.zrepr (by decide +kernel) (pa_cons (pv 17) pa_nil))) (pa_cons (pe_op op_add_str pe_str (pe_callB SkE.call_repr_int (by rfl) T.zrepr (by decide +kernel) (pa_cons (pe_op op_add (pv 17) pe_int) pa_nil))) (pa_cons (pe_op op_add (pe_op op_pow pe_int pe_int) (pv 17)) pa_nil))))))
      (pss_cons (ps_set (i := 14) scLaw.nd rfl (.inl rfl) (pe_k cFor hg hr (by decide) (by rfl) (pa_cons (pe_mkr mk hr (by decide) (by rfl) (pa_cons (pv 6) (pa_cons (pv 9) pa_nil))) (pa_cons (pe_op op_cat (pe_lst (pa_cons (pe_op op_sub pe_int (pe_op op_pow pe_int pe_int)) pa_nil)) (pe_op op_rep (pe_lst (pa_cons pe_non pa_nil)) pe_int)) pa_nil))))
      (pss_cons (ps_set (i := 10) scLaw.nd rfl (.inl rfl) (pe_disp (pps_cons pe_str (pv 6) (pps_cons pe_str (pv 9) pps_nil)) (by rfl) (by rfl) (fun z => by cases z) (by decide)))
      (pss_cons (ps_if (pt_cmpR (op_neD hu64) (pe_callTy call_list_of (by rfl) T.zlist (by decide +kernel) (pa_cons (pv 14) pa_nil)) (pe_k cRs hg hr (by decide) (by rfl) (pa_cons (pv 10) (pa_cons (pe_op op_cat (pe_lst (pa_cons (pe_op op_sub pe_int (pe_op op_pow pe_int pe_int)) pa_nil)) (pe_op op_rep (pe_lst (pa_cons pe_non pa_nil)) pe_int)) pa_nil))) (nomark _)) (pss_one (ps_ret pe_bl)) pss_nil)
      (pss_cons (ps_set (i := 15) scLaw.nd rfl (.inl rfl) (pe_mkr mk hr (by decide) (by rfl) (pa_cons (pv 6) (pa_cons (pe_op op_cat (pv 9) (pe_lst (pa_cons (pe_tup (pa_cons pe_str (pa_cons pe_str (pa_cons (pe_op op_sub (pe_op op_sub (pe_op op_sub pe_int (pe_op op_mul pe_int (pe_op op_pow pe_int pe_int))) (pe_op op_mul pe_int pe_int)) (pe_op op_mul pe_int pe_int)) pa_nil)))) pa_nil))) pa_nil))))
      (pss_cons (ps_set (i := 16) scLaw.nd rfl (.inl rfl) (pe_mkr mk hr (by decide) (by rfl) (pa_cons (pv 6) (pa_cons (pe_op op_cat (pv 9) (pe_lst (pa_cons (pe_tup (pa_cons pe_str (pa_cons pe_str (pa_cons (pe_op op_add (pe_op op_sub (pe_op op_sub pe_int (pe_op op_mul pe_int (pe_op op_pow pe_int pe_int))) (pe_op op_mul pe_int pe_int)) pe_int) pa_nil)))) pa_nil))) pa_nil))))
      (pss_one (ps_ret (pe_and (pe_k cHT hg hr (by decide) (by rfl) (pa_cons (pv 15) pa_nil)) (pe_one (pe_not (pe_k cHT hg hr (by decide) (by rfl) (pa_cons (pv 16) pa_nil)))))))))))))))), ?_⟩
    refine ⟨_, rfl, a, ns, rfl, hS, hl, fun d c H0 nd nc S0 s0' => ?_⟩
    refine ⟨3, rfl, by decide, by decide, ?_⟩
    refine for_range (lo := 0) (fun i σ H1 => ∃ (v2 v3 v4 v5 v6 v7 v8 v9 v10 v11 v12 v13 v14 v15 v16 v17 v18 : Option V), σ = [some (.ref a), some (.ref d), v2, v3, v4, v5, v6, v7, v8, v9, v10, v11, v12, v13, v14, v15, v16, v17, v18] ∧ Src H1 d c) ⟨_, _, _, _, _, _, _, _, _, _, _, _, _, _, _, _, _, rfl, S0⟩ ?_ ?_
    · rintro i σ H1 hi ⟨v2, v3, v4, v5, v6, v7, v8, v9, v10, v11, v12, v13, v14, v15, v16, v17, v18, rfl, S1⟩
      first | refine name_step (σ' := [some (.ref a), some (.ref d), some (.int (0 + (i : Nat))), v3, v4, v5, v6, v7, v8, v9, v10, v11, v12, v13, v14, v15, v16, v17, v18]) rfl ?_ | refine st_step (σ' := [some (.ref a), some (.ref d), some (.int (0 + (i : Nat))), v3, v4, v5, v6, v7, v8, v9, v10, v11, v12, v13, v14, v15, v16, v17, v18]) rfl ?_
      -- step, many
      refine ⟨_, rfl, (by show 6 ≤ sizeLine; decide), fun l1 nl1 => ?_⟩
      refine ⟨d, c, l1, ([1, 2, 5, 12, 30, 60] : List Int).map V.int, rfl, S1.new nl1, upd_same, (S1.away nl1).2, (by show 0 < 6; decide), (by show 6 < 1000000000; decide), fun j1 v1 H2 hv1 S2 k2 => ?_⟩
      obtain ⟨st, hst, rfl⟩ := int_at hv1
      have hst := steps_of (List.mem_of_getElem? hst)
      refine ⟨_, rfl, d, c, 8, rfl, S2, by decide, fun r1 H3 a0 a1 S3 k3 => ?_⟩
      obtain ⟨n1, rfl⟩ : ∃ j : Nat, r1 = j := ⟨r1.toNat, (Int.toNat_of_nonneg a0).symm⟩
      have n7 : n1 ≤ 7 := by omega
      refine ⟨_, _, rfl, rfl, ?_⟩
      refine ⟨_, _, rfl, ?_⟩
      first | refine name_step (σ' := [some (.ref a), some (.ref d), some (.int (0 + (i : Nat))), some (.int st), some (.int (2 + (n1 : Nat))), v5, v6, v7, v8, v9, v10, v11, v12, v13, v14, v15, v16, v17, v18]) rfl ?_ | refine st_step (σ' := [some (.ref a), some (.ref d), some (.int (0 + (i : Nat))), some (.int st), some (.int (2 + (n1 : Nat))), v5, v6, v7, v8, v9, v10, v11, v12, v13, v14, v15, v16, v17, v18]) rfl ?_
      clear a0 a1 hv1 nl1 S1 S2 k2 k3
      -- far
      refine ⟨_, rfl, 10, 29, rfl, rfl, ⟨by decide, by decide, by decide⟩, 10, 29, rfl, rfl, ⟨by decide, by decide, by decide⟩, _, _, rfl, rfl, (by show 3 ≤ sizeLine; decide), fun l2 nl2 => ?_⟩
      refine ⟨d, c, l2, ([0, 10 ^ 29, 0 - 10 ^ 29] : List Int).map V.int, rfl, S3.new nl2, upd_same, (S3.away nl2).2, (by show 0 < 3; decide), (by show 3 < 1000000000; decide), fun j2 v2' H4 hv2 S4 k4 => ?_⟩
      obtain ⟨fr, _, rfl⟩ := int_at hv2
      refine ⟨_, rfl, d, c, 1000, rfl, S4, by decide, fun r2 H5 b0 b1 S5 k5 => ?_⟩
      refine ⟨_, _, rfl, rfl, ?_⟩
      first | refine name_step (σ' := [some (.ref a), some (.ref d), some (.int (0 + (i : Nat))), some (.int st), some (.int (2 + (n1 : Nat))), some (.int (fr + r2)), v6, v7, v8, v9, v10, v11, v12, v13, v14, v15, v16, v17, v18]) rfl ?_ | refine st_step (σ' := [some (.ref a), some (.ref d), some (.int (0 + (i : Nat))), some (.int st), some (.int (2 + (n1 : Nat))), some (.int (fr + r2)), v6, v7, v8, v9, v10, v11, v12, v13, v14, v15, v16, v17, v18]) rfl ?_
      generalize fr + r2 = far
      clear b0 b1 hv2 nl2 S3 S4 k4 k5
      -- points
      refine ⟨_, rfl, 2 + (n1 : Nat), rfl, by omega, by omega, fun D nD => ?_⟩
      have aD := S5.away nD
      refine lc_range (lo := 0) (fun q H6 => ∃ (cs : List Addr) (qs : List Pt), Src H6 d c ∧ H6 D = some (.lst (cs.map V.ref)) ∧ Row ptV (mask d c H6) cs qs ∧ qs.length = q ∧ (∀ (j : Nat) (p : Pt), qs[j]? = some p → p.1 = pnI ((0 : Int) + (j : Nat)) ∧ p.2.2 = 1)) ⟨[], [], S5.new nD, upd_same, ⟨rfl, fun _ _ _ z => nomatch z⟩, rfl, fun j p z => nomatch z⟩ ?_ ?_
      · rintro q H6 hq ⟨cs, qs, S6, hD, row, lq, prop⟩
        have bq : ((0 : Int) + (q : Nat)).natAbs < 1000 := by omega
        refine ⟨rfl, _, rfl, _, rfl, bits_of bq, _, _, rfl, rfl, p_len (nine_of bq), ?_⟩
        refine ⟨_, rfl, _, rfl, d, c, 9, rfl, S6, by decide, fun r H7 _ _ S7 k7 => ?_⟩
        refine ⟨_, _, rfl, rfl, (by show 3 ≤ sizeLine; decide), fun tp ntp => ?_⟩
        have kk : Keep d c H6 (upd H7 tp (.tup [.str (pnI ((0 : Int) + (q : Nat))), .int (far + r), .int 1])) := k7.new ntp
        have hDm := mask_keep kk _ _ (mask_at aD hD)
        have htp : mask d c (upd H7 tp (.tup [.str (pnI ((0 : Int) + (q : Nat))), .int (far + r), .int 1])) tp = some (ptV (pnI ((0 : Int) + (q : Nat)), far + r, 1)) := mask_at (S7.away ntp) upd_same
        have rowd := (row.same (mask_keep kk)).snoc htp
        have DD : D ∉ cs ++ [tp] := row_not rowd hDm (fun p z => by cases z)
        refine ⟨_, mask_same _ _ hDm, small1000 (by rw [List.length_map, row.1]; omega), cs ++ [tp], qs ++ [(pnI ((0 : Int) + (q : Nat)), far + r, 1)], (S7.new ntp).put aD, ?_, rowd.but mask_but DD, by rw [List.length_append, lq]; rfl, fun j p e => ?_⟩
        · rw [upd_same, List.map_append]
          rfl
        · rcases Nat.lt_or_ge j qs.length with lt | ge
          · rw [List.getElem?_append_left lt] at e
            exact prop j p e
          · have e2 := (List.getElem?_eq_some_iff.mp e).1
            rw [List.length_append] at e2
            have e3 : j = qs.length := by simp at e2; omega
            subst e3
            rw [List.getElem?_append_right (Nat.le_refl _), Nat.sub_self] at e
            cases e
            rw [lq]
            exact ⟨rfl, rfl⟩
      rintro H6 ⟨cs, qs, S6, hD, row, lq, prop⟩
      have lq2 : qs.length = n1 + 2 := by omega
      refine ⟨_, rfl, _, rfl, (by show 3 ≤ sizeLine; decide), fun tz ntz => ⟨(by show 1 ≤ sizeLine; decide), fun lz nlz => ?_⟩⟩
      have z1 := same_new (o := ptV ("zz", far, st)) ntz
      have z2 := same_new (o := .lst [.ref tz]) nlz
      have z12 := z1.trans z2
      refine ⟨D, lz, _, _, rfl, rfl, z12 _ _ hD, upd_same, ?_, fun PA nPA => ?_⟩
      · rw [List.length_map, row.1, lq2, sizeLine_eq]
        show n1 + 2 + 1 ≤ _
        omega
      have S7 := ((S6.new (o := .tup [.str "zz", .int far, .int st]) ntz).new (o := .lst [.ref tz]) nlz)
      have mtz : mask d c (upd (upd H6 tz (.tup [.str "zz", .int far, .int st])) lz (.lst [.ref tz])) tz = some (ptV ("zz", far, st)) := mask_at (S6.away ntz) (z2 _ _ upd_same)
      have row7 := (row.same (mask_keep (Keep.of z12))).snoc mtz
      have pp : PsP (n1 + 2) st (qs ++ [(("zz", far, st) : Pt)]) := PsP.of (by omega) (by omega) hst lq2 prop
      have nf : (namesOf (qs ++ [(("zz", far, st) : Pt)])).length = n1 + 3 := by
        show (List.map _ _).length = _
        rw [List.length_map, pp.len]
      rw [show cs.map V.ref ++ [V.ref tz] = (cs ++ [tz]).map V.ref by rw [List.map_append]; rfl]
      have S8 := S7.new (o := .lst ((cs ++ [tz]).map V.ref)) nPA
      have row8 := row7.same (mask_new (d := d) (c := c) (o := .lst ((cs ++ [tz]).map V.ref)) nPA)
      have mP8 : mask d c (upd (upd (upd H6 tz (.tup [.str "zz", .int far, .int st])) lz (.lst [.ref tz])) PA (.lst ((cs ++ [tz]).map V.ref))) PA = some (.lst ((cs ++ [tz]).map V.ref)) := mask_at (S7.away nPA) upd_same
      revert S8 row8 mP8
      generalize upd (upd (upd H6 tz (.tup [.str "zz", .int far, .int st])) lz (.lst [.ref tz])) PA (.lst ((cs ++ [tz]).map V.ref)) = H8
      generalize cs ++ [tz] = as at *
      generalize qs ++ [(("zz", far, st) : Pt)] = ps at *
      intro S8 row8 mP8
      clear row7 mtz z12 z1 z2 S7 nPA nlz ntz prop lq lq2 row hD S6 nD aD S5
      first | refine name_step (σ' := [some (.ref a), some (.ref d), some (.int (0 + (i : Nat))), some (.int st), some (.int (2 + (n1 : Nat))), some (.int far), some (.ref PA), v7, v8, v9, v10, v11, v12, v13, v14, v15, v16, v17, v18]) rfl ?_ | refine st_step (σ' := [some (.ref a), some (.ref d), some (.int (0 + (i : Nat))), some (.int st), some (.int (2 + (n1 : Nat))), some (.int far), some (.ref PA), v7, v8, v9, v10, v11, v12, v13, v14, v15, v16, v17, v18]) rfl ?_
      -- leaps
      refine ⟨_, rfl, _, _, rfl, rfl, 2 + (n1 : Nat) - 1, rfl, by omega, by omega, fun LA nLA => ?_⟩
      have aL := S8.away nLA
      refine lc_range (lo := 0) (fun q Hx => ∃ ls : List Int, Keep d c H8 Hx ∧ Src Hx d c ∧ mask d c Hx LA = some (.lst (ls.map V.int)) ∧ ls.length = q) ⟨[], Keep.refl.new nLA, S8.new nLA, mask_at aL upd_same, rfl⟩ ?_ ?_
      · rintro q H9 hq ⟨ls, k9, S9, mL, ll⟩
        refine ⟨rfl, _, rfl, d, c, 41, rfl, S9, by decide, fun r Ha _ _ Sa ka => ?_⟩
        refine ⟨_, _, rfl, rfl, _, rfl, 10, 27, rfl, rfl, ⟨by decide, by decide, by decide⟩, (by show 2 ≤ sizeLine; decide), fun lz nlz => ?_⟩
        refine ⟨d, c, lz, ([0, 10 ^ 27] : List Int).map V.int, rfl, Sa.new nlz, upd_same, (Sa.away nlz).2, (by show 0 < 2; decide), (by show 2 < 1000000000; decide), fun jj vv Hb hv Sb kb => ?_⟩
        obtain ⟨lp, _, rfl⟩ := int_at hv
        refine ⟨_, _, rfl, rfl, ?_⟩
        have kk : Keep d c H9 Hb := (ka.new nlz).trans kb
        have mLb := mask_keep kk _ _ mL
        refine ⟨_, mask_same _ _ mLb, small1000 (by rw [List.length_map]; omega), ls ++ [r - 20 + lp], (k9.trans kk).put nLA, Sb.put aL, mask_at aL ?_, by rw [List.length_append, ll]; rfl⟩
        rw [upd_same, List.map_append]
        rfl
      rintro H9 ⟨ls, k9, S9, mL, ll⟩
      have ll : ls.length + 1 = n1 + 2 := by omega
      have t9 : TW d c PA LA as ps ls H9 := ⟨S9, mask_keep k9 _ _ mP8, row8.same (mask_keep k9), mL⟩
      clear k9 S9 mL nLA aL mP8 row8 S8
      first | refine name_step (σ' := [some (.ref a), some (.ref d), some (.int (0 + (i : Nat))), some (.int st), some (.int (2 + (n1 : Nat))), some (.int far), some (.ref PA), some (.ref LA), v8, v9, v10, v11, v12, v13, v14, v15, v16, v17, v18]) rfl ?_ | refine st_step (σ' := [some (.ref a), some (.ref d), some (.int (0 + (i : Nat))), some (.int st), some (.int (2 + (n1 : Nat))), some (.int far), some (.ref PA), some (.ref LA), v8, v9, v10, v11, v12, v13, v14, v15, v16, v17, v18]) rfl ?_
      -- a round that gains, and one that does not
      refine ⟨(by show 2 ≤ sizeLine; decide), fun OL nOL => ?_⟩
      have t10 := t9.same (same_new (o := .lst [.int 0, .int 1]) nOL)
      have mO := mask_at (t9.S.away nOL) (upd_same (H := H9) (a := OL) (o := .lst [.int 0, .int 1]))
      revert t10 mO
      generalize upd H9 OL (.lst [.int 0, .int 1]) = H10
      intro t10 mO
      clear t9 nOL
      refine ⟨OL, rfl, ⟨_, SqL.of (mask_same _ _ mO)⟩, ?_⟩
      refine for_it walk_list (fun q σ Hx => ∃ (v8 v9 v10 v11 v12 v13 v14 v15 v16 v17 v18 : Option V), σ = [some (.ref a), some (.ref d), some (.int (0 + (i : Nat))), some (.int st), some (.int (2 + (n1 : Nat))), some (.int far), some (.ref PA), some (.ref LA), v8, v9, v10, v11, v12, v13, v14, v15, v16, v17, v18] ∧ TW d c PA LA as ps ls Hx ∧ mask d c Hx OL = some (.lst [.int 0, .int 1])) ⟨_, _, _, _, _, _, _, _, _, _, _, rfl, t10, mO⟩ (fun q σ Hx _ ⟨_, _, _, _, _, _, _, _, _, _, _, _, _, m⟩ => SqL.of (mask_same _ _ m)) ?_ ?_
      · rintro q y σ H11 H12 hq ⟨v8, v9, v10, v11, v12, v13, v14, v15, v16, v17, v18, rfl, t11, mO1⟩ ⟨rfl, hy⟩
        obtain ⟨ov, rfl, hov⟩ : ∃ ov : Int, y = .int ov ∧ (ov = 0 ∨ ov = 1) := by
          match q, hy with
          | 0, hy => cases hy; exact ⟨0, rfl, .inl rfl⟩
          | 1, hy => cases hy; exact ⟨1, rfl, .inr rfl⟩
          | q + 2, hy => cases hy
        first | refine name_step (σ' := [some (.ref a), some (.ref d), some (.int (0 + (i : Nat))), some (.int st), some (.int (2 + (n1 : Nat))), some (.int far), some (.ref PA), some (.ref LA), some (.int ov), v9, v10, v11, v12, v13, v14, v15, v16, v17, v18]) rfl ?_ | refine st_step (σ' := [some (.ref a), some (.ref d), some (.int (0 + (i : Nat))), some (.int st), some (.int (2 + (n1 : Nat))), some (.int far), some (.ref PA), some (.ref LA), some (.int ov), v9, v10, v11, v12, v13, v14, v15, v16, v17, v18]) rfl ?_
        refine ⟨_, rfl, _, _, rfl, rfl, 2 + (n1 : Nat) - 1, rfl, by omega, by omega, fun R0 nR0 => ?_⟩
        refine lc_range (lo := 0) (fun q Hx => ∃ cs : List Addr, Same H12 Hx ∧ Hx R0 = some (.lst (cs.map V.ref)) ∧ Row rlV Hx cs ((rsP ls).take q)) ⟨[], same_new nR0, upd_same, ⟨by simp, fun _ _ _ z => nomatch z⟩⟩ ?_ ?_
        · rintro q H6 hq ⟨cs, s6, hD, row⟩
          have qls : q < ls.length := by omega
          have bq : ((0 : Int) + (q : Nat)).natAbs < 1000 := by omega
          have bq1 : ((0 : Int) + (q : Nat) + 1).natAbs < 1000 := by omega
          have el := List.getElem?_eq_getElem qls
          have er : (rsP ls)[q]? = some (pnI ((0 : Int) + (q : Nat)), pnI ((0 : Int) + (q : Nat) + 1), ls[q]) := by
            unfold rsP
            rw [List.getElem?_map, List.getElem?_range qls]
            show some (_, _, ls.getD q 0) = _
            rw [List.getD_eq_getElem?_getD, el]
            rfl
          have lcs : cs.length = q := by rw [row.1, List.length_take, rsP_len]; omega
          refine ⟨rfl, _, rfl, _, rfl, bits_of bq, _, _, rfl, rfl, p_len (nine_of bq), ?_⟩
          refine ⟨_, rfl, _, _, rfl, rfl, _, rfl, bits_of bq1, _, _, rfl, rfl, p_len (nine_of bq1), ?_⟩
          refine ⟨_, rfl, _, rfl, LA, _, _, _, rfl, rfl, SqL.of (s6 _ _ (mask_same _ _ t11.la)), (by rw [Int.zero_add]; exact atI_nat (j := q) (show (ls.map V.int)[q]? = some (V.int ls[q]) by rw [List.getElem?_map, el]; rfl)), (by show 3 ≤ sizeLine; decide), fun tp ntp => ?_⟩
          have z := same_new (o := rlV (pnI ((0 : Int) + (q : Nat)), pnI ((0 : Int) + (q : Nat) + 1), ls[q])) ntp
          have hD2 := z _ _ hD
          have rowd := (row.same z).snoc (show (upd H6 tp (rlV (pnI ((0 : Int) + (q : Nat)), pnI ((0 : Int) + (q : Nat) + 1), ls[q]))) tp = _ from upd_same)
          refine ⟨_, hD2, small1000 (by rw [List.length_map]; omega), cs ++ [tp], fun b o e => by rw [upd_ne (ne_of_none e nR0)]; exact (s6.trans z) b o e, ?_, ?_⟩
          · rw [upd_same, List.map_append]
            rfl
          · rw [List.take_succ, er]
            exact rowd.but (fun b o e ne => by rw [upd_ne ne]; exact e) (row_not rowd hD2 (fun p e => by cases e))
        rintro H6 ⟨cs, s6, hR0, rowR0⟩
        rw [List.take_of_length_le (by rw [rsP_len]; omega)] at rowR0
        have lcs : cs.length = ls.length := by rw [rowR0.1, rsP_len]
        first | refine name_step (σ' := [some (.ref a), some (.ref d), some (.int (0 + (i : Nat))), some (.int st), some (.int (2 + (n1 : Nat))), some (.int far), some (.ref PA), some (.ref LA), some (.int ov), some (.ref R0), v10, v11, v12, v13, v14, v15, v16, v17, v18]) rfl ?_ | refine st_step (σ' := [some (.ref a), some (.ref d), some (.int (0 + (i : Nat))), some (.int st), some (.int (2 + (n1 : Nat))), some (.int far), some (.ref PA), some (.ref LA), some (.int ov), some (.ref R0), v10, v11, v12, v13, v14, v15, v16, v17, v18]) rfl ?_
        have bm : (2 + (n1 : Int) - 1).natAbs < 1000 := by omega
        refine ⟨_, rfl, ?_⟩
        refine ⟨_, rfl, _, _, rfl, rfl, _, rfl, bits_of bm, _, _, rfl, rfl, p_len (nine_of bm), ?_⟩
        refine ⟨_, rfl, _, rfl, LA, ls, rfl, SqL.of (s6 _ _ (mask_same _ _ t11.la)), _, _, rfl, rfl, (by show 3 ≤ sizeLine; decide), fun tz ntz => ⟨(by show 1 ≤ sizeLine; decide), fun lz nlz => ?_⟩⟩
        have z1 := same_new (o := rlV (pnI (2 + (n1 : Int) - 1), "p0", ov - ls.sum)) ntz
        have z2 := same_new (o := .lst [.ref tz]) nlz
        have z12 := z1.trans z2
        have rowA : Row rlV (upd (upd H6 tz (rlV (pnI (2 + (n1 : Int) - 1), "p0", ov - ls.sum))) lz (.lst [.ref tz])) (cs ++ [tz]) (rsO (n1 + 2) ls (ov - ls.sum)) := by
          have e := (rowR0.same z12).snoc (p := ((pnI (2 + (n1 : Int) - 1), "p0", ov - ls.sum) : Rl)) (z2 _ _ upd_same)
          unfold rsO
          rw [show (((n1 + 2 : Nat) : Int) - 1) = 2 + (n1 : Int) - 1 by omega]
          exact e
        refine ⟨R0, lz, _, _, rfl, rfl, z12 _ _ hR0, upd_same, ?_, fun RA nRA => ?_⟩
        · rw [List.length_map, lcs, sizeLine_eq]
          show ls.length + 1 ≤ _
          omega
        rw [show cs.map V.ref ++ [V.ref tz] = (cs ++ [tz]).map V.ref by rw [List.map_append]; rfl]
        have aRA := ((t11.S.same s6).same z12).away nRA
        have z3 := same_new (o := .lst ((cs ++ [tz]).map V.ref)) nRA
        have hRA : (upd (upd (upd H6 tz (rlV (pnI (2 + (n1 : Int) - 1), "p0", ov - ls.sum))) lz (.lst [.ref tz])) RA (.lst ((cs ++ [tz]).map V.ref))) RA = some (.lst ((cs ++ [tz]).map V.ref)) := upd_same
        have rowB := rowA.same z3
        have sAll := (s6.trans z12).trans z3
        first | refine name_step (σ' := [some (.ref a), some (.ref d), some (.int (0 + (i : Nat))), some (.int st), some (.int (2 + (n1 : Nat))), some (.int far), some (.ref PA), some (.ref LA), some (.int ov), some (.ref RA), v10, v11, v12, v13, v14, v15, v16, v17, v18]) rfl ?_ | refine st_step (σ' := [some (.ref a), some (.ref d), some (.int (0 + (i : Nat))), some (.int st), some (.int (2 + (n1 : Nat))), some (.int far), some (.ref PA), some (.ref LA), some (.int ov), some (.ref RA), v10, v11, v12, v13, v14, v15, v16, v17, v18]) rfl ?_
        have t13 := t11.same sAll
        have mO13 := mask_keep (Keep.of sAll) _ _ mO1
        intro nt nnt
        have ant := t13.S.away nnt
        have S5 := t13.S.new (o := .dK []) nnt
        have k5 := (Keep.of sAll : Keep d c H12 _).new (o := .dK []) nnt
        have g5 := mask_new (d := d) (c := c) (o := .dK []) nnt
        have hnt := upd_same (a := nt) (o := .dK []) (H := upd (upd (upd H6 tz (rlV (pnI (2 + (n1 : Int) - 1), "p0", ov - ls.sum))) lz (.lst [.ref tz])) RA (.lst ((cs ++ [tz]).map V.ref)))
        have mP := g5 _ _ t13.pa
        have rowP := t13.row.same g5
        have mR := g5 _ _ (mask_at aRA hRA)
        have rowR := (row_msk rowB t13.S).same g5
        refine ⟨_, rfl, _, rfl, _, rfl, _, rfl, fun x dx nx ndx ne => ?_⟩
        have sm := same_net (C := C) nx ndx ne
        refine ⟨x, dx, PA, RA, as, cs ++ [tz], ps, rsO (n1 + 2) ls (ov - ls.sum), rfl, upd_same, sm _ _ (mask_same _ _ mP), sm _ _ (mask_same _ _ mR), (rowP.same mask_same).same sm, (rowR.same mask_same).same sm, pp.good ll, fun H16 b6 hid _ => ⟨rfl, ?_⟩⟩
        have s16 : Same _ H16 := fun y u e => b6 y u (sm _ _ e) (ne_of_none e nx)
        have S6 := S5.same s16
        have k6 := k5.trans (Keep.of s16)
        have g6 := mask_keep (d := d) (c := c) (Keep.of s16)
        have mP := g6 _ _ mP
        have rowP := rowP.same g6
        have mR := g6 _ _ mR
        have rowR := rowR.same g6
        have hnt6 := s16 _ _ hnt
        have mad := hid nt [] (sm _ _ hnt)
        have nt0 : H12 nt = none := none_same sAll nnt
        clear sm b6 s16 S5 k5 nx ndx ne hid hnt g5 g6 nnt aRA sAll hRA rowB t13
        refine ⟨hnt6, wdK PA RA x, rfl, (by show 3 ≤ 15; decide), ?_⟩
        unfold wdK
        rw [merge3 (by decide +kernel) (by decide +kernel) (by decide +kernel)]
        have mnt := mask_at (d := d) (c := c) ant hnt6
        have S7 := S6.put (o := .dK (wdK PA RA x)) ant
        have k7 := k6.put (o := .dK (wdK PA RA x)) nt0
        have lwd : LWd C (mask d c (upd H16 nt (.dK (wdK PA RA x)))) nt ps (rsO (n1 + 2) ls (ov - ls.sum)) := by
          refine ⟨PA, RA, x, as, cs ++ [tz], mask_at ant upd_same, ?_, ?_, rowP.but mask_but (row_not rowP mnt (fun p z => by cases z)), rowR.but mask_but (row_not rowR mnt (fun p z => by cases z)), NetAt.msk (mad.same fun b o e => ?_) S7⟩
          · exact mask_but _ _ mP (ne_of mP mnt (by intro z; cases z))
          · exact mask_but _ _ mR (ne_of mR mnt (by intro z; cases z))
          · unfold hideD at e
            split at e
            · cases e
            · rename_i q
              rw [upd_ne q]
              exact e
        have t17 := t11.keep S7 k7
        have mO17 := mask_keep k7 _ _ mO1
        have hwd := upd_same (H := H16) (a := nt) (o := .dK (wdK PA RA x))
        unfold wdK at lwd t17 mO17 hwd
        revert lwd t17 mO17 hwd
        generalize upd H16 nt (.dK [(Sum.inr "points", .ref PA), (Sum.inr "rules", .ref RA), (Sum.inr "made", .ref x)]) = H17
        intro lwd t17 mO17 hwd
        clear S7 k7 mnt mP rowP mR rowR mad hnt6 S6 k6
        first | refine name_step (σ' := [some (.ref a), some (.ref d), some (.int (0 + (i : Nat))), some (.int st), some (.int (2 + (n1 : Nat))), some (.int far), some (.ref PA), some (.ref LA), some (.int ov), some (.ref RA), some (.ref nt), v11, v12, v13, v14, v15, v16, v17, v18]) rfl ?_ | refine st_step (σ' := [some (.ref a), some (.ref d), some (.int (0 + (i : Nat))), some (.int st), some (.int (2 + (n1 : Nat))), some (.int far), some (.ref PA), some (.ref LA), some (.int ov), some (.ref RA), some (.ref nt), v11, v12, v13, v14, v15, v16, v17, v18]) rfl ?_
        have few := pp.few (x := ov - ls.sum) ll
        have fit := pp.fit (x := ov - ls.sum) ll
        obtain ⟨_, _, x2, _, _, hw2, _, _, _, _, net⟩ := id lwd.ex
        have s60 : ∀ p, p ∈ ps → p.2.2 ≤ 60 := fun p m => (pp.step p m).2.1
        have few2 : ps.length + (offOf ps + 2) * (rsO (n1 + 2) ls (ov - ls.sum)).length ≤ 900000 := by
          have h2 : (offOf ps + 2) * (rsO (n1 + 2) ls (ov - ls.sum)).length ≤ (offOf ps + 3) * (rsO (n1 + 2) ls (ov - ls.sum)).length := Nat.mul_le_mul_right _ (by omega)
          omega
        refine ⟨_, rfl, nt, _, rfl, getM (mask_same _ _ hw2), x2, ps, rsO (n1 + 2) ls (ov - ls.sum), 420, rfl, net.same mask_same, fit, few2, fun H18 s18 tt => ?_, fun rt H18 s18 no ring => ?_⟩
        · rcases hov with rfl | rfl
          case inr => exact absurd tt (pp.no ll (by omega))
          have t18 := t17.same s18
          have mO18 := mask_keep (Keep.of s18) _ _ mO17
          first | refine name_step (σ' := [some (.ref a), some (.ref d), some (.int (0 + (i : Nat))), some (.int st), some (.int (2 + (n1 : Nat))), some (.int far), some (.ref PA), some (.ref LA), some (.int 0), some (.ref RA), some (.ref nt), some .non, v12, v13, v14, v15, v16, v17, v18]) rfl ?_ | refine st_step (σ' := [some (.ref a), some (.ref d), some (.int (0 + (i : Nat))), some (.int st), some (.int (2 + (n1 : Nat))), some (.int far), some (.ref PA), some (.ref LA), some (.int 0), some (.ref RA), some (.ref nt), some .non, v12, v13, v14, v15, v16, v17, v18]) rfl ?_
          refine ⟨_, rfl, rfl, _, rfl, rfl, rfl, _, rfl, iteF ?_⟩
          refine ⟨_, rfl, rfl, _, rfl, iteF (iteF ?_)⟩
          exact ⟨_, _, _, _, _, _, _, _, _, _, _, rfl, t18, mO18⟩
        · rcases hov with rfl | rfl
          case inl => exact absurd (pp.tt ll (by omega)) no
          have t18 := t17.same s18
          have mO18 := mask_keep (Keep.of s18) _ _ mO17
          have lwd18 := lwd.same (mask_keep (Keep.of s18))
          first | refine name_step (σ' := [some (.ref a), some (.ref d), some (.int (0 + (i : Nat))), some (.int st), some (.int (2 + (n1 : Nat))), some (.int far), some (.ref PA), some (.ref LA), some (.int 1), some (.ref RA), some (.ref nt), some (.ref rt), v12, v13, v14, v15, v16, v17, v18]) rfl ?_ | refine st_step (σ' := [some (.ref a), some (.ref d), some (.int (0 + (i : Nat))), some (.int st), some (.int (2 + (n1 : Nat))), some (.int far), some (.ref PA), some (.ref LA), some (.int 1), some (.ref RA), some (.ref nt), some (.ref rt), v12, v13, v14, v15, v16, v17, v18]) rfl ?_
          refine ⟨_, rfl, rfl, _, rfl, rfl, rfl, _, rfl, iteF ?_⟩
          refine ⟨_, rfl, rfl, _, rfl, iteT ?_⟩
          refine ⟨_, rfl, _, rfl, nt, rt, ps, rsO (n1 + 2) ls (1 - ls.sum), rfl, lwd18.same mask_same, fit, s60, ring.ringW fit, off60_of pp (x := 1 - ls.sum) ll, fun H19 s19 => ?_⟩
          refine ⟨_, rfl, iteF ?_⟩
          exact ⟨_, _, _, _, _, _, _, _, _, _, _, rfl, t18.same s19, mask_keep (Keep.of s19) _ _ mO18⟩
      rintro σ H20 ⟨v8, v9, v10, v11, v12, v13, v14, v15, v16, v17, v18, rfl, t20, _⟩
      clear t10 mO
      -- great numbers are forced
      refine ⟨_, rfl, _, _, rfl, rfl, 2 + (n1 : Nat) - 1, rfl, by omega, by omega, fun R0 nR0 => ?_⟩
      refine lc_range (lo := 0) (fun q Hx => ∃ cs : List Addr, Same H20 Hx ∧ Hx R0 = some (.lst (cs.map V.ref)) ∧ Row rlV Hx cs ((rsP ls).take q)) ⟨[], same_new nR0, upd_same, ⟨by simp, fun _ _ _ z => nomatch z⟩⟩ ?_ ?_
      · rintro q H6 hq ⟨cs, s6, hD, row⟩
        have qls : q < ls.length := by omega
        have bq : ((0 : Int) + (q : Nat)).natAbs < 1000 := by omega
        have bq1 : ((0 : Int) + (q : Nat) + 1).natAbs < 1000 := by omega
        have el := List.getElem?_eq_getElem qls
        have er : (rsP ls)[q]? = some (pnI ((0 : Int) + (q : Nat)), pnI ((0 : Int) + (q : Nat) + 1), ls[q]) := by
          unfold rsP
          rw [List.getElem?_map, List.getElem?_range qls]
          show some (_, _, ls.getD q 0) = _
          rw [List.getD_eq_getElem?_getD, el]
          rfl
        have lcs : cs.length = q := by rw [row.1, List.length_take, rsP_len]; omega
        refine ⟨rfl, _, rfl, _, rfl, bits_of bq, _, _, rfl, rfl, p_len (nine_of bq), ?_⟩
        refine ⟨_, rfl, _, _, rfl, rfl, _, rfl, bits_of bq1, _, _, rfl, rfl, p_len (nine_of bq1), ?_⟩
        refine ⟨_, rfl, _, rfl, LA, _, _, _, rfl, rfl, SqL.of (s6 _ _ (mask_same _ _ t20.la)), (by rw [Int.zero_add]; exact atI_nat (j := q) (show (ls.map V.int)[q]? = some (V.int ls[q]) by rw [List.getElem?_map, el]; rfl)), (by show 3 ≤ sizeLine; decide), fun tp ntp => ?_⟩
        have z := same_new (o := rlV (pnI ((0 : Int) + (q : Nat)), pnI ((0 : Int) + (q : Nat) + 1), ls[q])) ntp
        have hD2 := z _ _ hD
        have rowd := (row.same z).snoc (show (upd H6 tp (rlV (pnI ((0 : Int) + (q : Nat)), pnI ((0 : Int) + (q : Nat) + 1), ls[q]))) tp = _ from upd_same)
        refine ⟨_, hD2, small1000 (by rw [List.length_map]; omega), cs ++ [tp], fun b o e => by rw [upd_ne (ne_of_none e nR0)]; exact (s6.trans z) b o e, ?_, ?_⟩
        · rw [upd_same, List.map_append]
          rfl
        · rw [List.take_succ, er]
          exact rowd.but (fun b o e ne => by rw [upd_ne ne]; exact e) (row_not rowd hD2 (fun p e => by cases e))
      rintro H6 ⟨cs, s6, hR0, rowR0⟩
      rw [List.take_of_length_le (by rw [rsP_len]; omega)] at rowR0
      have lcs : cs.length = ls.length := by rw [rowR0.1, rsP_len]
      first | refine name_step (σ' := [some (.ref a), some (.ref d), some (.int (0 + (i : Nat))), some (.int st), some (.int (2 + (n1 : Nat))), some (.int far), some (.ref PA), some (.ref LA), v8, some (.ref R0), v10, v11, v12, v13, v14, v15, v16, v17, v18]) rfl ?_ | refine st_step (σ' := [some (.ref a), some (.ref d), some (.int (0 + (i : Nat))), some (.int st), some (.int (2 + (n1 : Nat))), some (.int far), some (.ref PA), some (.ref LA), v8, some (.ref R0), v10, v11, v12, v13, v14, v15, v16, v17, v18]) rfl ?_
      intro nt nnt
      have ant := (t20.same s6).S.away nnt
      have nt0 : H20 nt = none := none_same s6 nnt
      have zn := same_new (o := .dK []) nnt
      have hnt := upd_same (H := H6) (a := nt) (o := .dK [])
      have s6 := s6.trans zn
      have hR0 := zn _ _ hR0
      have rowR0 := rowR0.same zn
      revert hnt s6 hR0 rowR0
      generalize upd H6 nt (.dK []) = H21
      intro hnt s6 hR0 rowR0
      clear zn nnt nR0
      refine ⟨_, rfl, ?_⟩
      have bm : (2 + (n1 : Int) - 1).natAbs < 1000 := by omega
      refine ⟨_, rfl, ?_⟩
      refine ⟨_, rfl, _, _, rfl, rfl, _, rfl, bits_of bm, _, _, rfl, rfl, p_len (nine_of bm), ?_⟩
      refine ⟨_, rfl, LA, ls, rfl, SqL.of (s6 _ _ (mask_same _ _ t20.la)), _, _, rfl, rfl, (by show 3 ≤ sizeLine; decide), fun tz ntz => ⟨(by show 1 ≤ sizeLine; decide), fun lz nlz => ?_⟩⟩
      have z1 := same_new (o := rlV (pnI (2 + (n1 : Int) - 1), "p0", 0 - ls.sum)) ntz
      have z2 := same_new (o := .lst [.ref tz]) nlz
      have z12 := z1.trans z2
      have rowA : Row rlV (upd (upd H21 tz (rlV (pnI (2 + (n1 : Int) - 1), "p0", 0 - ls.sum))) lz (.lst [.ref tz])) (cs ++ [tz]) (rsO (n1 + 2) ls (0 - ls.sum)) := by
        have e := (rowR0.same z12).snoc (p := ((pnI (2 + (n1 : Int) - 1), "p0", 0 - ls.sum) : Rl)) (z2 _ _ upd_same)
        unfold rsO
        rw [show (((n1 + 2 : Nat) : Int) - 1) = 2 + (n1 : Int) - 1 by omega]
        exact e
      refine ⟨R0, lz, _, _, rfl, rfl, z12 _ _ hR0, upd_same, ?_, fun RA nRA => ?_⟩
      · rw [List.length_map, lcs, sizeLine_eq]
        show ls.length + 1 ≤ _
        omega
      rw [show cs.map V.ref ++ [V.ref tz] = (cs ++ [tz]).map V.ref by rw [List.map_append]; rfl]
      have aRA := ((t20.S.same s6).same z12).away nRA
      have z3 := same_new (o := .lst ((cs ++ [tz]).map V.ref)) nRA
      have hRA : (upd (upd (upd H21 tz (rlV (pnI (2 + (n1 : Int) - 1), "p0", 0 - ls.sum))) lz (.lst [.ref tz])) RA (.lst ((cs ++ [tz]).map V.ref))) RA = some (.lst ((cs ++ [tz]).map V.ref)) := upd_same
      have rowB := rowA.same z3
      have sAll := (s6.trans z12).trans z3
      refine ⟨z3 _ _ (z12 _ _ hnt), [(Sum.inr "points", .ref PA), (Sum.inr "rules", .ref RA), (Sum.inr "made", .non)], rfl, (by show 3 ≤ 15; decide), ?_⟩
      rw [merge3 (by decide +kernel) (by decide +kernel) (by decide +kernel)]
      have t22 := t20.same sAll
      have mnt := mask_at (d := d) (c := c) ant (z3 _ _ (z12 _ _ hnt))
      have mRA := mask_at aRA hRA
      have rowM := row_msk rowB t22.S
      have S23 := t22.S.put (o := .dK [(Sum.inr "points", .ref PA), (Sum.inr "rules", .ref RA), (Sum.inr "made", .non)]) ant
      have k23 := (Keep.of sAll : Keep d c H20 _).put (o := .dK [(Sum.inr "points", .ref PA), (Sum.inr "rules", .ref RA), (Sum.inr "made", .non)]) nt0
      have t23 := t20.keep S23 k23
      have hwd : (mask d c (upd (upd (upd (upd H21 tz (rlV (pnI (2 + (n1 : Int) - 1), "p0", 0 - ls.sum))) lz (.lst [.ref tz])) RA (.lst ((cs ++ [tz]).map V.ref))) nt (.dK [(Sum.inr "points", .ref PA), (Sum.inr "rules", .ref RA), (Sum.inr "made", .non)]))) nt = some (.dK [(Sum.inr "points", .ref PA), (Sum.inr "rules", .ref RA), (Sum.inr "made", .non)]) := mask_at ant upd_same
      have mRA2 := mask_but (D := nt) (o := .dK [(Sum.inr "points", .ref PA), (Sum.inr "rules", .ref RA), (Sum.inr "made", .non)]) _ _ mRA (ne_of mRA mnt (by intro z; cases z))
      have rowM2 := rowM.but (mask_but (o := .dK [(Sum.inr "points", .ref PA), (Sum.inr "rules", .ref RA), (Sum.inr "made", .non)])) (row_not rowM mnt (fun p z => by cases z))
      have w24 : TV d c PA LA as ps ls nt (rsO (n1 + 2) ls (0 - ls.sum)) _ := ⟨t23, PA, RA, [(Sum.inr "points", .ref PA), (Sum.inr "rules", .ref RA), (Sum.inr "made", .non)], as, cs ++ [tz], hwd, rfl, rfl, t23.pa, mRA2, t23.row, rowM2⟩
      first | refine name_step (σ' := [some (.ref a), some (.ref d), some (.int (0 + (i : Nat))), some (.int st), some (.int (2 + (n1 : Nat))), some (.int far), some (.ref PA), some (.ref LA), v8, some (.ref R0), some (.ref nt), v11, v12, v13, v14, v15, v16, v17, v18]) rfl ?_ | refine st_step (σ' := [some (.ref a), some (.ref d), some (.int (0 + (i : Nat))), some (.int st), some (.int (2 + (n1 : Nat))), some (.int far), some (.ref PA), some (.ref LA), v8, some (.ref R0), some (.ref nt), v11, v12, v13, v14, v15, v16, v17, v18]) rfl ?_
      have few := pp.few (x := 0 - ls.sum) ll
      have fit := pp.fit (x := 0 - ls.sum) ll
      have good := pp.good (x := 0 - ls.sum) ll
      have tt := pp.tt (x := 0 - ls.sum) ll (by omega)
      have s60 : ∀ p, p ∈ ps → p.2.2 ≤ 60 := fun p m => (pp.step p m).2.1
      have few2 : ps.length + (offOf ps + 2) * (rsO (n1 + 2) ls (0 - ls.sum)).length ≤ 900000 := by
        have h2 : (offOf ps + 2) * (rsO (n1 + 2) ls (0 - ls.sum)).length ≤ (offOf ps + 3) * (rsO (n1 + 2) ls (0 - ls.sum)).length := Nat.mul_le_mul_right _ (by omega)
        omega
      revert w24 few fit good tt few2
      generalize rsO (n1 + 2) ls (0 - ls.sum) = rs
      intro w24 few fit good tt few2
      obtain ⟨PA3, RA3, kvs3, as3, bs3, hwd3, hvP3, hvR3, _, hR3, _, rowR3⟩ := id w24.lw.ex
      refine ⟨_, rfl, _, rfl, nt, _, rfl, getR2 (mask_same _ _ hwd3) hvR3, fun x dx nx ndx ne => ?_⟩
      have sm := same_net (C := C) nx ndx ne
      refine ⟨x, dx, PA, RA3, as, bs3, ps, rs, rfl, upd_same, sm _ _ (mask_same _ _ w24.t.pa), sm _ _ (mask_same _ _ hR3), (w24.t.row.same mask_same).same sm, (rowR3.same mask_same).same sm, good, fun H25 b6 hid mad => ⟨rfl, ?_⟩⟩
      have s25 : Same _ H25 := fun y u e => b6 y u (sm _ _ e) (ne_of_none e nx)
      have w25 := w24.same s25
      have mad := NetAt.msk mad w25.t.S
      clear b6 hid sm s25 nx ndx ne w24 hR3 rowR3 hwd3 mRA2 rowM2 hwd t23 k23 S23 rowM mRA mnt t22 sAll z3 z12 z2 z1 rowB hRA
      -- floors
      refine ⟨_, rfl, PA, rfl, ⟨_, SqL.of (mask_same _ _ w25.t.pa)⟩, fun FL nFL => ?_⟩
      have aF := w25.t.S.away nFL
      have las : (as.map V.ref).length = ps.length := by rw [List.length_map]; exact w25.t.row.1
      refine lc_it walk_list (fun q Hx => ∃ gs : List Int, Keep d c H25 Hx ∧ Src Hx d c ∧ mask d c Hx FL = some (.lst (gs.map V.int)) ∧ gs.length = q) ⟨[], Keep.refl.new nFL, w25.t.S.new nFL, mask_at aF upd_same, rfl⟩ (fun q Hx _ ⟨_, k, _⟩ => SqL.of (mask_same _ _ (mask_keep k _ _ w25.t.pa))) ?_ ?_
      · rintro q y H26 H27 hq ⟨gs, k26, S26, mF, lg⟩ ⟨rfl, hy⟩
        refine ⟨rfl, _, rfl, _, rfl, d, c, 100, rfl, S26, by decide, fun r Ha _ _ Sa ka => ?_⟩
        refine ⟨_, _, rfl, rfl, _, _, rfl, rfl, ?_⟩
        have mFa := mask_keep ka _ _ mF
        have bp := pp.len
        refine ⟨_, mask_same _ _ mFa, small1000 (by rw [List.length_map]; have := pp.n9; omega), gs ++ [far + r - 50], (k26.trans ka).put nFL, Sa.put aF, mask_at aF ?_, by rw [List.length_append, lg]; rfl⟩
        rw [upd_same, List.map_append]
        rfl
      rintro H26 ⟨gs, k26, S26, mF, lg⟩
      rw [las] at lg
      refine ⟨_, _, rfl, ?_⟩
      have w26 := w25.keep S26 k26
      have mad := mad.same (mask_keep k26)
      clear k26 S26 w25 nFL aF
      first | refine name_step (σ' := [some (.ref a), some (.ref d), some (.int (0 + (i : Nat))), some (.int st), some (.int (2 + (n1 : Nat))), some (.int far), some (.ref PA), some (.ref LA), v8, some (.ref R0), some (.ref nt), v11, some (.ref x), some (.ref FL), v14, v15, v16, v17, v18]) rfl ?_ | refine st_step (σ' := [some (.ref a), some (.ref d), some (.int (0 + (i : Nat))), some (.int st), some (.int (2 + (n1 : Nat))), some (.int far), some (.ref PA), some (.ref LA), v8, some (.ref R0), some (.ref nt), v11, some (.ref x), some (.ref FL), v14, v15, v16, v17, v18]) rfl ?_
      -- the same numbers
      refine ⟨_, rfl, _, rfl, x, FL, ps, rs, gs.map some, 420, rfl, mad.same mask_same, fit, .inl (by rw [iV_some]; exact mask_same _ _ mF), by rw [List.length_map]; exact lg, few2, (fun no => tt_no fit no tt), fun t ys H27 s27 ht due => ?_⟩
      refine ⟨t, _, rfl, .inr (SqT.of ht), fun L nL => ?_⟩
      have zL := same_new (o := .lst (ys.map iV)) nL
      have hL := upd_same (H := H27) (a := L) (o := .lst (ys.map iV))
      have w28 := w26.same (s27.trans zL)
      have mF28 := mask_keep (Keep.of (s27.trans zL)) _ _ mF
      have mad28 := mad.same (mask_keep (d := d) (c := c) (Keep.of (s27.trans zL)))
      refine ⟨_, rfl, _, rfl, nt, FL, ps, rs, gs.map some, rfl, w28.lw.same mask_same, fit, s60, .inl (by rw [iV_some]; exact mask_same _ _ mF28), by rw [List.length_map]; exact lg, few, fun L2 ys2 H29 s29 hL2 due2 => ?_, fun H29 s29 no => absurd tt (tt_no fit no)⟩
      cases due.uniq due2
      refine ⟨.list (ys.map oD), .list (ys.map oD), .lst (SqL.of (s29 _ _ hL)) (dpAll_os _), .lst (SqL.of hL2) (dpAll_os _), shaped_lstO _, shaped_lstO _, ?_⟩
      rw [eqv_lstO]
      refine ⟨_, rfl, iteF ?_⟩
      have w29 := w28.same s29
      refine ⟨_, rfl, x, ps, rs, 420, rfl, (mad28.same (mask_keep (Keep.of s29))).same mask_same, fit, few2, fun b H30 s30 iff => ?_⟩
      obtain rfl : b = true := iff.mpr tt
      refine ⟨_, rfl, iteF ?_⟩
      exact ⟨_, _, _, _, _, _, _, _, _, _, _, _, _, _, _, _, _, rfl, (w29.same s30).t.S⟩
    -- the long row
    rintro σ H1 ⟨v2, v3, v4, v5, v6, v7, v8, v9, v10, v11, v12, v13, v14, v15, v16, v17, v18, rfl, S1⟩
    refine ⟨40, rfl, by decide, by decide, fun QA nQA => ?_⟩
    refine lc_range (lo := 0) (fun q Hx => ∃ cs : List Addr, Same H1 Hx ∧ Hx QA = some (.lst (cs.map V.ref)) ∧ Row ptV Hx cs (psQ.take q)) ⟨[], same_new nQA, upd_same, ⟨by simp, fun _ _ _ z => nomatch z⟩⟩ ?_ ?_
    · rintro q H6 hq ⟨cs, s6, hD, row⟩
      have q40 : q < 40 := hq
      have bq : ((0 : Int) + (q : Nat)).natAbs < 1000 := by omega
      have er : psQ[q]? = some (qnI ((0 : Int) + (q : Nat)), ((0 : Int) + (q : Nat)) % 3, 1 + ((0 : Int) + (q : Nat)) % 3) := by
        unfold psQ
        rw [List.getElem?_map, List.getElem?_range q40]
        rfl
      have lcs : cs.length = q := by rw [row.1, List.length_take, psQ_len]; omega
      refine ⟨rfl, _, rfl, _, rfl, bits_of bq, _, _, rfl, rfl, q_len (nine_of bq), ?_⟩
      refine ⟨_, rfl, .inl ⟨_, rfl, _, _, rfl, rfl, (show (0 : Int) < 3 by decide), ?_⟩⟩
      refine ⟨_, rfl, .inl ⟨_, rfl, _, _, rfl, rfl, (show (0 : Int) < 3 by decide), _, _, rfl, rfl, (by show 3 ≤ sizeLine; decide), fun tp ntp => ?_⟩⟩
      have z := same_new (o := ptV (qnI ((0 : Int) + (q : Nat)), ((0 : Int) + (q : Nat)) % 3, 1 + ((0 : Int) + (q : Nat)) % 3)) ntp
      have hD2 := z _ _ hD
      have rowd := (row.same z).snoc (show (upd H6 tp (ptV (qnI ((0 : Int) + (q : Nat)), ((0 : Int) + (q : Nat)) % 3, 1 + ((0 : Int) + (q : Nat)) % 3))) tp = _ from upd_same)
      refine ⟨_, hD2, small1000 (by rw [List.length_map]; omega), cs ++ [tp], fun b o e => by rw [upd_ne (ne_of_none e nQA)]; exact (s6.trans z) b o e, ?_, ?_⟩
      · rw [upd_same, List.map_append]
        rfl
      · rw [List.take_succ, er]
        exact rowd.but (fun b o e ne => by rw [upd_ne ne]; exact e) (row_not rowd hD2 (fun p e => by cases e))
    rintro H2 ⟨cs, s2, hQ, rowQ⟩
    rw [List.take_of_length_le (by rw [psQ_len]; decide)] at rowQ
    first | refine name_step (σ' := [some (.ref a), some (.ref d), v2, v3, v4, v5, some (.ref QA), v7, v8, v9, v10, v11, v12, v13, v14, v15, v16, v17, v18]) rfl ?_ | refine st_step (σ' := [some (.ref a), some (.ref d), v2, v3, v4, v5, some (.ref QA), v7, v8, v9, v10, v11, v12, v13, v14, v15, v16, v17, v18]) rfl ?_
    clear s2 nQA
    refine ⟨39, rfl, by decide, by decide, fun RL nRL => ?_⟩
    refine lc_range (lo := 0) (fun q Hx => ∃ bs : List Addr, Same H2 Hx ∧ Hx RL = some (.lst (bs.map V.ref)) ∧ Row rlV Hx bs (rsQ.take q)) ⟨[], same_new nRL, upd_same, ⟨by simp, fun _ _ _ z => nomatch z⟩⟩ ?_ ?_
    · rintro q H6 hq ⟨bs, s6, hD, row⟩
      have q39 : q < 39 := hq
      have bq : ((0 : Int) + (q : Nat)).natAbs < 1000 := by omega
      have bq1 : ((0 : Int) + (q : Nat) + 1).natAbs < 1000 := by omega
      have er : rsQ[q]? = some (qnI ((0 : Int) + (q : Nat)), qnI ((0 : Int) + (q : Nat) + 1), 10 ^ 28 + ((0 : Int) + (q : Nat))) := by
        unfold rsQ
        rw [List.getElem?_map, List.getElem?_range q39]
        rfl
      have lcs : bs.length = q := by rw [row.1, List.length_take, rsQ_len]; omega
      refine ⟨rfl, _, rfl, _, rfl, bits_of bq, _, _, rfl, rfl, q_len (nine_of bq), ?_⟩
      refine ⟨_, rfl, _, _, rfl, rfl, _, rfl, bits_of bq1, _, _, rfl, rfl, q_len (nine_of bq1), ?_⟩
      refine ⟨10, 28, rfl, rfl, ⟨by decide, by decide, by decide⟩, _, rfl, _, _, rfl, rfl, (by show 3 ≤ sizeLine; decide), fun tp ntp => ?_⟩
      have z := same_new (o := rlV (qnI ((0 : Int) + (q : Nat)), qnI ((0 : Int) + (q : Nat) + 1), 10 ^ 28 + ((0 : Int) + (q : Nat)))) ntp
      have hD2 := z _ _ hD
      have rowd := (row.same z).snoc (show (upd H6 tp (rlV (qnI ((0 : Int) + (q : Nat)), qnI ((0 : Int) + (q : Nat) + 1), 10 ^ 28 + ((0 : Int) + (q : Nat))))) tp = _ from upd_same)
      refine ⟨_, hD2, small1000 (by rw [List.length_map]; omega), bs ++ [tp], fun b o e => by rw [upd_ne (ne_of_none e nRL)]; exact (s6.trans z) b o e, ?_, ?_⟩
      · rw [upd_same, List.map_append]
        rfl
      · rw [List.take_succ, er]
        exact rowd.but (fun b o e ne => by rw [upd_ne ne]; exact e) (row_not rowd hD2 (fun p e => by cases e))
    rintro H3 ⟨bs, s3, hR, rowR⟩
    rw [List.take_of_length_le (by rw [rsQ_len]; decide)] at rowR
    have lbs : bs.length = 39 := by rw [rowR.1, rsQ_len]
    have hQ := s3 _ _ hQ
    have rowQ := rowQ.same s3
    first | refine name_step (σ' := [some (.ref a), some (.ref d), v2, v3, v4, v5, some (.ref QA), v7, v8, some (.ref RL), v10, v11, v12, v13, v14, v15, v16, v17, v18]) rfl ?_ | refine st_step (σ' := [some (.ref a), some (.ref d), v2, v3, v4, v5, some (.ref QA), v7, v8, some (.ref RL), v10, v11, v12, v13, v14, v15, v16, v17, v18]) rfl ?_
    clear s3 nRL
    -- forced
    refine ⟨_, rfl, _, rfl, fun x dx nx ndx ne => ?_⟩
    have sm := same_net (C := C) nx ndx ne
    refine ⟨x, dx, QA, RL, cs, bs, psQ, rsQ, rfl, upd_same, sm _ _ hQ, sm _ _ hR, rowQ.same sm, rowR.same sm, goodQ, fun H4 b6 hid mad => ⟨rfl, ?_⟩⟩
    have s4 : Same _ H4 := fun y u e => b6 y u (sm _ _ e) (ne_of_none e nx)
    have hQ := s4 _ _ hQ
    have rowQ := rowQ.same s4
    have hR := s4 _ _ hR
    have rowR := rowR.same s4
    clear s4 b6 hid sm nx ndx ne
    refine ⟨10, 30, rfl, rfl, ⟨by decide, by decide, by decide⟩, _, _, rfl, rfl, (by show 1 ≤ sizeLine; decide), fun la nla => ?_⟩
    refine ⟨(by show 1 ≤ sizeLine; decide), fun lb nlb => ?_⟩
    refine ⟨lb, 39, [.non], rfl, rfl, upd_same, by decide, by decide, (by show 39 ≤ sizeLine; decide), fun lc nlc => ?_⟩
    have y1 := same_new (o := .lst [.int (0 - 10 ^ 30)]) nla
    have y2 := same_new (o := .lst [.non]) nlb
    have y3 := same_new (o := .lst (List.replicate (39 : Int).toNat [V.non]).flatten) nlc
    refine ⟨la, lc, _, _, rfl, rfl, y3 _ _ (y2 _ _ upd_same), upd_same, (by show 40 ≤ sizeLine; decide), fun FL nFL => ?_⟩
    have eFL : HO.lst ([V.int (0 - 10 ^ 30)] ++ (List.replicate (39 : Int).toNat [V.non]).flatten) = HO.lst (fsQ.map iV) := congrArg HO.lst fsQ_is
    have y4 := same_new (o := .lst ([V.int (0 - 10 ^ 30)] ++ (List.replicate (39 : Int).toNat [V.non]).flatten)) nFL
    have y14 := ((y1.trans y2).trans y3).trans y4
    refine ⟨x, FL, psQ, rsQ, fsQ, 420, rfl, mad.same y14, fitQ, .inl (upd_same.trans (congrArg some eFL)), fsQ_len, few_of psQ_len fitQ.off_le (by rw [rsQ_len]; decide) (by decide), (fun no => tt_no fitQ no ttQ), fun t ys H5 s5 ht due => ?_⟩
    have sE := y14.trans s5
    have hQ := sE _ _ hQ
    have rowQ := rowQ.same sE
    have hR := sE _ _ hR
    have rowR := rowR.same sE
    clear sE s5 y14 y4 y3 y2 y1 mad
    first | refine name_step (σ' := [some (.ref a), some (.ref d), v2, v3, v4, v5, some (.ref QA), v7, v8, some (.ref RL), v10, v11, v12, v13, some (.ref t), v15, v16, v17, v18]) rfl ?_ | refine st_step (σ' := [some (.ref a), some (.ref d), v2, v3, v4, v5, some (.ref QA), v7, v8, some (.ref RL), v10, v11, v12, v13, some (.ref t), v15, v16, v17, v18]) rfl ?_
    -- a world of points and rules alone
    intro nt nnt
    have zn := same_new (o := .dK []) nnt
    have hnt := upd_same (H := H5) (a := nt) (o := .dK [])
    have hQ := zn _ _ hQ
    have hR := zn _ _ hR
    have ht := zn _ _ ht
    have rowQ := rowQ.same zn
    have rowR := rowR.same zn
    revert hnt hQ hR ht rowQ rowR
    generalize upd H5 nt (.dK []) = H6
    intro hnt hQ hR ht rowQ rowR
    clear zn nnt
    refine ⟨_, rfl, _, rfl, hnt, [(Sum.inr "points", .ref QA), (Sum.inr "rules", .ref RL)], rfl, (by show 2 ≤ 15; decide), ?_⟩
    rw [merge2K]
    have bt : ∀ (b : Addr) (o : HO), b ≠ nt → H6 b = some o → (upd H6 nt (.dK [(Sum.inr ("points" : Str), .ref QA), (Sum.inr ("rules" : Str), .ref RL)])) b = some o := fun b o ne e => by rw [upd_ne ne]; exact e
    have hwd := upd_same (H := H6) (a := nt) (o := .dK [(Sum.inr ("points" : Str), .ref QA), (Sum.inr ("rules" : Str), .ref RL)])
    have rowQ := rowQ.but (fun b o e ne => bt b o ne e) (row_not rowQ hnt (fun p e => by cases e))
    have rowR := rowR.but (fun b o e ne => bt b o ne e) (row_not rowR hnt (fun p e => by cases e))
    have hQ := bt _ _ (ne_of hQ hnt (by intro z; cases z)) hQ
    have hR := bt _ _ (ne_of hR hnt (by intro z; cases z)) hR
    have ht := bt _ _ (ne_of ht hnt (by intro z; cases z)) ht
    revert hwd rowQ rowR hQ hR ht
    generalize upd H6 nt (.dK [(Sum.inr ("points" : Str), .ref QA), (Sum.inr ("rules" : Str), .ref RL)]) = H7
    intro hwd rowQ rowR hQ hR ht
    clear bt hnt
    have lw : LW2 H7 nt psQ rsQ := ⟨QA, RL, _, cs, bs, hwd, rfl, rfl, hQ, hR, rowQ, rowR⟩
    first | refine name_step (σ' := [some (.ref a), some (.ref d), v2, v3, v4, v5, some (.ref QA), v7, v8, some (.ref RL), some (.ref nt), v11, v12, v13, some (.ref t), v15, v16, v17, v18]) rfl ?_ | refine st_step (σ' := [some (.ref a), some (.ref d), v2, v3, v4, v5, some (.ref QA), v7, v8, some (.ref RL), some (.ref nt), v11, v12, v13, some (.ref t), v15, v16, v17, v18]) rfl ?_
    refine ⟨_, rfl, t, _, rfl, .inr (SqT.of ht), fun L nL => ?_⟩
    have zL := same_new (o := .lst (ys.map iV)) nL
    have hL := upd_same (H := H7) (a := L) (o := .lst (ys.map iV))
    have hQ := zL _ _ hQ
    have hR := zL _ _ hR
    have rowQ := rowQ.same zL
    have rowR := rowR.same zL
    have lw := lw.same zL
    revert hL hQ hR rowQ rowR lw
    generalize upd H7 L (.lst (ys.map iV)) = H8
    intro hL hQ hR rowQ rowR lw
    clear zL nL hwd ht
    refine ⟨_, rfl, ?_⟩
    refine ⟨10, 30, rfl, rfl, ⟨by decide, by decide, by decide⟩, _, _, rfl, rfl, (by show 1 ≤ sizeLine; decide), fun la nla => ?_⟩
    refine ⟨(by show 1 ≤ sizeLine; decide), fun lb nlb => ?_⟩
    refine ⟨lb, 39, [.non], rfl, rfl, upd_same, by decide, by decide, (by show 39 ≤ sizeLine; decide), fun lc nlc => ?_⟩
    have y1 := same_new (o := .lst [.int (0 - 10 ^ 30)]) nla
    have y2 := same_new (o := .lst [.non]) nlb
    have y3 := same_new (o := .lst (List.replicate (39 : Int).toNat [V.non]).flatten) nlc
    refine ⟨la, lc, _, _, rfl, rfl, y3 _ _ (y2 _ _ upd_same), upd_same, (by show 40 ≤ sizeLine; decide), fun FL nFL => ?_⟩
    have eFL : HO.lst ([V.int (0 - 10 ^ 30)] ++ (List.replicate (39 : Int).toNat [V.non]).flatten) = HO.lst (fsQ.map iV) := congrArg HO.lst fsQ_is
    have y4 := same_new (o := .lst ([V.int (0 - 10 ^ 30)] ++ (List.replicate (39 : Int).toNat [V.non]).flatten)) nFL
    have y14 := ((y1.trans y2).trans y3).trans y4
    refine ⟨nt, FL, psQ, rsQ, fsQ, rfl, lw.same y14, fitQ, (fun p m => (psQ_pt p m).2.2.1), .inl (upd_same.trans (congrArg some eFL)), fsQ_len, fewQ, fun L2 ys2 H9 s9 hL2 due2 => ?_, fun H9 s9 no => absurd ttQ (tt_no fitQ no)⟩
    cases due.uniq due2
    have sE := y14.trans s9
    have hL := sE _ _ hL
    have hQ := sE _ _ hQ
    have rowQ := rowQ.same sE
    have hR := sE _ _ hR
    have rowR := rowR.same sE
    refine ⟨.list (ys.map oD), .list (ys.map oD), .lst (SqL.of hL) (dpAll_os _), .lst (SqL.of hL2) (dpAll_os _), shaped_lstO _, shaped_lstO _, ?_⟩
    rw [eqv_lstO]
    refine ⟨_, rfl, iteF ?_⟩
    clear sE s9 y14 y4 y3 y2 y1 hL hL2 lw due2
    -- back
    refine ⟨_, rfl, _, rfl, 10, 28, rfl, rfl, ⟨by decide, by decide, by decide⟩, 39, _, rfl, rfl, .inl ⟨by decide, by decide⟩, _, _, rfl, rfl, 39, 19, rfl, rfl, .inl ⟨by decide, by decide⟩, _, _, rfl, rfl, 39, 3, rfl, rfl, .inl ⟨by decide, by decide⟩, _, _, rfl, rfl, (by show 3 ≤ sizeLine; decide), fun tz ntz => ⟨(by show 1 ≤ sizeLine; decide), fun lz nlz => ?_⟩⟩
    have y1 := same_new (o := rlV ("q39", "q0", 0 - 39 * 10 ^ 28 - 39 * 19 - 39 * 3)) ntz
    have y2 := same_new (o := .lst [.ref tz]) nlz
    have y12 := y1.trans y2
    have rowA : Row rlV _ (bs ++ [tz]) (rsB (0 - 39 * 10 ^ 28 - 39 * 19 - 39 * 3)) := (rowR.same y12).snoc (p := (("q39", "q0", 0 - 39 * 10 ^ 28 - 39 * 19 - 39 * 3) : Rl)) (y2 _ _ upd_same)
    refine ⟨RL, lz, _, _, rfl, rfl, y12 _ _ hR, upd_same, ?_, fun RB nRB => ?_⟩
    · rw [List.length_map, lbs, sizeLine_eq]
      show 39 + 1 ≤ _
      decide
    rw [show bs.map V.ref ++ [V.ref tz] = (bs ++ [tz]).map V.ref by rw [List.map_append]; rfl]
    have y3 := same_new (o := .lst ((bs ++ [tz]).map V.ref)) nRB
    have y13 := y12.trans y3
    refine fun x1 dx nx ndx ne => ?_
    have sm := same_net (C := C) nx ndx ne
    refine ⟨x1, dx, QA, RB, cs, bs ++ [tz], psQ, rsB (0 - 39 * 10 ^ 28 - 39 * 19 - 39 * 3), rfl, upd_same, sm _ _ (y13 _ _ hQ), sm _ _ upd_same, (rowQ.same y13).same sm, (rowA.same y3).same sm, goodB _, fun H10 b6 hid madx1 => ⟨rfl, ?_⟩⟩
    have s6 : Same _ H10 := fun y u e => b6 y u (sm _ _ e) (ne_of_none e nx)
    have sE := y13.trans s6
    have hQ := sE _ _ hQ
    have rowQ := rowQ.same sE
    have hR := sE _ _ hR
    have rowR := rowR.same sE
    clear sE s6 b6 hid sm nx ndx ne y13 y3 rowA y12 y2 y1 nRB nlz ntz
    first | refine name_step (σ' := [some (.ref a), some (.ref d), v2, v3, v4, v5, some (.ref QA), v7, v8, some (.ref RL), some (.ref nt), v11, v12, v13, some (.ref t), some (.ref x1), v16, v17, v18]) rfl ?_ | refine st_step (σ' := [some (.ref a), some (.ref d), v2, v3, v4, v5, some (.ref QA), v7, v8, some (.ref RL), some (.ref nt), v11, v12, v13, some (.ref t), some (.ref x1), v16, v17, v18]) rfl ?_
    have mad1 := madx1
    clear madx1
    refine ⟨_, rfl, _, rfl, 10, 28, rfl, rfl, ⟨by decide, by decide, by decide⟩, 39, _, rfl, rfl, .inl ⟨by decide, by decide⟩, _, _, rfl, rfl, 39, 19, rfl, rfl, .inl ⟨by decide, by decide⟩, _, _, rfl, rfl, _, _, rfl, rfl, (by show 3 ≤ sizeLine; decide), fun tz ntz => ⟨(by show 1 ≤ sizeLine; decide), fun lz nlz => ?_⟩⟩
    have y1 := same_new (o := rlV ("q39", "q0", 0 - 39 * 10 ^ 28 - 39 * 19 + 1)) ntz
    have y2 := same_new (o := .lst [.ref tz]) nlz
    have y12 := y1.trans y2
    have rowA : Row rlV _ (bs ++ [tz]) (rsB (0 - 39 * 10 ^ 28 - 39 * 19 + 1)) := (rowR.same y12).snoc (p := (("q39", "q0", 0 - 39 * 10 ^ 28 - 39 * 19 + 1) : Rl)) (y2 _ _ upd_same)
    refine ⟨RL, lz, _, _, rfl, rfl, y12 _ _ hR, upd_same, ?_, fun RB nRB => ?_⟩
    · rw [List.length_map, lbs, sizeLine_eq]
      show 39 + 1 ≤ _
      decide
    rw [show bs.map V.ref ++ [V.ref tz] = (bs ++ [tz]).map V.ref by rw [List.map_append]; rfl]
    have y3 := same_new (o := .lst ((bs ++ [tz]).map V.ref)) nRB
    have y13 := y12.trans y3
    refine fun x2 dx nx ndx ne => ?_
    have sm := same_net (C := C) nx ndx ne
    refine ⟨x2, dx, QA, RB, cs, bs ++ [tz], psQ, rsB (0 - 39 * 10 ^ 28 - 39 * 19 + 1), rfl, upd_same, sm _ _ (y13 _ _ hQ), sm _ _ upd_same, (rowQ.same y13).same sm, (rowA.same y3).same sm, goodB _, fun H11 b6 hid madx2 => ⟨rfl, ?_⟩⟩
    have s6 : Same _ H11 := fun y u e => b6 y u (sm _ _ e) (ne_of_none e nx)
    have sE := y13.trans s6
    have hQ := sE _ _ hQ
    have rowQ := rowQ.same sE
    have hR := sE _ _ hR
    have rowR := rowR.same sE
    have mad1 := mad1.same sE
    clear sE s6 b6 hid sm nx ndx ne y13 y3 rowA y12 y2 y1 nRB nlz ntz hQ rowQ hR rowR
    first | refine name_step (σ' := [some (.ref a), some (.ref d), v2, v3, v4, v5, some (.ref QA), v7, v8, some (.ref RL), some (.ref nt), v11, v12, v13, some (.ref t), some (.ref x1), some (.ref x2), v17, v18]) rfl ?_ | refine st_step (σ' := [some (.ref a), some (.ref d), v2, v3, v4, v5, some (.ref QA), v7, v8, some (.ref RL), some (.ref nt), v11, v12, v13, some (.ref t), some (.ref x1), some (.ref x2), v17, v18]) rfl ?_
    refine ⟨_, rfl, x1, psQ, rsB (0 - 39 * 10 ^ 28 - 39 * 19 - 39 * 3), 420, rfl, mad1, fitB _, fewB _, fun b1 H12 s12 iff1 => ?_⟩
    obtain rfl : b1 = true := iff1.mpr (ttB back_le)
    refine ⟨true, rfl, iteT ?_⟩
    refine ⟨_, rfl, x2, psQ, rsB (0 - 39 * 10 ^ 28 - 39 * 19 + 1), 420, rfl, madx2.same s12, fitB _, fewB _, fun b2 H13 s13 iff2 => ?_⟩
    obtain rfl : b2 = false := by
      cases b2 with
      | false => rfl
      | true => exact absurd (iff2.mp rfl) (noB none_gt)
    refine ⟨false, rfl, ?_⟩
    exact kend _

end
end K14
namespace K14
open PySem PySem.Spec L2 Rt
open PyProof.Rows hiding St
structure Defs14 (K : PySem.W.Frag) (mg : Str → Option Value) : Prop where
  isWord : At K mg "is_word" sIsWord
  isInt : At K mg "is_integer" sIsInt
  isName : At K mg "is_name_of" sIsName
  wip : At K mg "wrong_in_point" sWip
  wips : At K mg "wrong_in_points" sWips
  wir : At K mg "wrong_in_rule" sWir
  wirs : At K mg "wrong_in_rules" sWirs
  pup : At K mg "up" sPUp
  forced : At K mg "forced" sForced
  ear : At K mg "earliest" sEar
  fring : At K mg "find_ring" sFR
  ht : At K mg "has_timetable" sHT
  source : At K mg "_law_source" sSource
  pick : At K mg "_law_pick" sPick
  of : At K mg "_law_of" sOf
  lup : At K mg "_law_up" sLUpX
  lper : At K mg "_law_period" sLPer
  raised : At K mg "_law_raised" sRaised
  clk : At K mg "_law_clock" sClk
  led : At K mg "_law_led" sLed
  isR : At K mg "_law_is_ring" sIsR
  told : At K mg "_law_is_told_ring" sToldR
  law : At K mg "law" sLaw
structure Nil14 (mg : Str → Option Value) : Prop where
  zisinstance : mg "isinstance" = none
  zlen : mg "len" = none
  zall : mg "all" = none
  zint : mg "int" = none
  zbool : mg "bool" = none
  zstr : mg "str" = none
  ztuple : mg "tuple" = none
  zlist : mg "list" = none
  zenumerate : mg "enumerate" = none
  zrange : mg "range" = none
  zmax : mg "max" = none
  zmin : mg "min" = none
  zabs : mg "abs" = none
  zrepr : mg "repr" = none
  zzip : mg "zip" = none
  zsum : mg "sum" = none
  zdict : mg "dict" = none
structure Con14 (mg : Str → Option Value) : Prop where
  let_ : ∃ t, mg "LETTERS" = some (.str LET t)
  sgn : ∃ t, mg "WORD_SIGNS" = some (.str SGN t)
  lw : ∃ t, mg "LONGEST_WORD" = some (.int 12 t)
  gs : ∃ t, mg "GREATEST_STEP" = some (.int 60 t)
  lcm : mg "lcm" = some (.builtin "math.lcm")
structure Ms14 (K : PySem.W.Frag) (C : Addr) : Prop where
  points : MAt K C "points" "Network.points" sMPoints
  rules : MAt K C "rules" "Network.rules" sMRules
  names : MAt K C "names" "Network.names" sMNames
  has : MAt K C "has_name" "Network.has_name" sMHas
  index : MAt K C "index" "Network.index" sMIndex
  period : MAt K C "period" "Network.period" sMPeriod
  clock : MAt K C "clock" "Network.clock" sMClock
structure MsR14 (K : PySem.W.Frag) (C : Addr) : Prop where
  num : MAt K C "_number" "Rising._number" sRNum
  nums : MAt K C "numbers" "Rising.numbers" sRNums
  fol : MAt K C "_follow" "Rising._follow" sFol
  fin : MAt K C "finish" "Rising.finish" sFin
  last : MAt K C "_last_ring" "Rising._last_ring" sLastR
section
variable {P : Program} {w : World} {K : PySem.W.Frag} {mg : Str → Option Value} {base : Heap} {C CR : Addr}
theorem wds14 (N : Nil14 mg) (c : Con14 mg) : Wds mg := ⟨N.zisinstance, N.zlen, N.zall, N.zint, N.zbool, N.zstr, N.ztuple, N.zlist, N.zenumerate, c.let_, c.sgn, c.lw, c.gs⟩
theorem rng14 (N : Nil14 mg) : Rng mg := ⟨N.zrange, N.zlen, N.zmax, N.zmin, N.ztuple⟩
theorem lw14 (N : Nil14 mg) (c : Con14 mg) : Lw mg := { wds14 N c, rng14 N with zabs := N.zabs, zrepr := N.zrepr, zzip := N.zzip }
theorem the_law (A : Defs14 K mg) (N : Nil14 mg) (c : Con14 mg) (cn : ClsN K C) (cr : ClsR K CR) (mk : MkAt K mg "Network" C "Network.__init__" sInit) (mkR : MkAt K mg "Rising" CR "Rising.__init__" sRInit) (m : Ms14 K C) (mr : MsR14 K CR) {fa : Addr} (ha : mg "law" = some (.ref fa)) :
    ∃ fd : FuncData, (∀ (s : Shared) (u : Value), BindsTo s fd ⟨[u], []⟩ [("script", u)]) ∧ ∀ base : Heap, FnG P w K mg base 9 fa fd ["script"] (spLaw K) := by
  obtain ⟨f, fd, F, mf⟩ := A.law.ex
  cases ha.symm.trans mf
  refine ⟨fd, ?_, fun base => ?_⟩
  · obtain ⟨oc, od, kV, doc, pm, an, cdv, ct, osl, rfl, lk, hcd⟩ := F.ex
    exact fun s u => .of_eq rfl
  have T := lw14 N c
  have fWord : Cf P w K mg base 1 "is_word" spWord1 := A.isWord.cf (fun f fd F => ok_isWord F T.toWds) fun f fd F => F.binds fun _ _ _ _ _ _ us hl => match us, hl with | [_], _ => rfl
  have fInt1 : Cf P w K mg base 1 "is_integer" spInt1 := A.isInt.cf (fun f fd F => ok_isInt F T.toWds) fun f fd F => F.binds fun _ _ _ _ _ _ us hl => match us, hl with | [_], _ => rfl
  have fName : Cf P w K mg base 1 "is_name_of" spIsName := A.isName.cf (fun f fd F => ok_isName F T.toWds) fun f fd F => F.binds fun _ _ _ _ _ _ us hl => match us, hl with | [_, _], _ => rfl
  have fWip : Cf P w K mg base 2 "wrong_in_point" spWip := A.wip.cf (fun f fd F => ok_wip F T.toWds fWord fInt1) fun f fd F => F.binds fun _ _ _ _ _ _ us hl => match us, hl with | [_, _], _ => rfl
  have fWir : Cf P w K mg base 2 "wrong_in_rule" spWir := A.wir.cf (fun f fd F => ok_wir F T.toWds fName fInt1) fun f fd F => F.binds fun _ _ _ _ _ _ us hl => match us, hl with | [_, _], _ => rfl
  have fWips : Cf P w K mg base 3 "wrong_in_points" spWips := A.wips.cf (fun f fd F => ok_wips F T.toWds fWip) fun f fd F => F.binds fun _ _ _ _ _ _ us hl => match us, hl with | [_], _ => rfl
  have fWirs : Cf P w K mg base 3 "wrong_in_rules" spWirs := A.wirs.cf (fun f fd F => ok_wirs F T.toWds fWir) fun f fd F => F.binds fun _ _ _ _ _ _ us hl => match us, hl with | [_, _], _ => rfl
  have mkr : Mkr P w K mg base 4 C "Network" (spInit C) := mk.mkr (fun f fd F => ok_init F T.toWds cn fWips fWirs) (fun f fd F => F.binds fun _ _ _ _ _ _ us hl => match us, hl with | [_, _, _], _ => rfl)
  have mP : Md P w K mg base 1 C "points" (spPoints C) := m.points.md (fun f fd F => ok_mpoints F T.toWds cn) (fun f fd F => F.binds fun _ _ _ _ _ _ us hl => match us, hl with | [_], _ => rfl)
  have mR : Md P w K mg base 1 C "rules" (spRules C) := m.rules.md (fun f fd F => ok_mrules F T.toWds cn) (fun f fd F => F.binds fun _ _ _ _ _ _ us hl => match us, hl with | [_], _ => rfl)
  have mN : Md P w K mg base 1 C "names" (spMNames C) := m.names.md (fun f fd F => ok_mnames F cn) (fun f fd F => F.binds fun _ _ _ _ _ _ us hl => match us, hl with | [_], _ => rfl)
  have mH : Md P w K mg base 2 C "has_name" (spMHas C) := m.has.md (fun f fd F => ok_mhas F cn fName) (fun f fd F => F.binds fun _ _ _ _ _ _ us hl => match us, hl with | [_, _], _ => rfl)
  have mI : Md P w K mg base 3 C "index" (spMIndex C) := m.index.md (fun f fd F => ok_mindex F cn mH) (fun f fd F => F.binds fun _ _ _ _ _ _ us hl => match us, hl with | [_, _], _ => rfl)
  have mPe : Md P w K mg base 1 C "period" (spMPeriod C) := m.period.md (fun f fd F => ok_mperiod F cn c.lcm) (fun f fd F => F.binds fun _ _ _ _ _ _ us hl => match us, hl with | [_], _ => rfl)
  have mCk : Md P w K mg base 4 C "clock" (spMClock C) := m.clock.md (fun f fd F => ok_mclock F cn mI) (fun f fd F => F.binds fun _ _ _ _ _ _ us hl => match us, hl with | [_, _], _ => rfl)
  have M : Meths P w K mg base C := ⟨mP, mR, mN, mI, mPe⟩
  have fPup : Cf P w K mg base 1 "up" spPUp := A.pup.cf (fun f fd F => ok_pup F) fun f fd F => F.binds fun _ _ _ _ _ _ us hl => match us, hl with | [_, _], _ => rfl
  have mNum : Md P w K mg base 1 CR "_number" (spRNumO CR) := mr.num.md (fun f fd F => ok_rnumO F cr) (fun f fd F => F.binds fun _ _ _ _ _ _ us hl => match us, hl with | [_, _], _ => rfl)
  have mNums : Md P w K mg base 2 CR "numbers" (spRNumsO CR) := mr.nums.md (fun f fd F => ok_rnumsO F T.toWds N.zrange cr mNum) (fun f fd F => F.binds fun _ _ _ _ _ _ us hl => match us, hl with | [_], _ => rfl)
  have mFol : Md P w K mg base 2 CR "_follow" (spFolO CR) := mr.fol.md (fun f fd F => ok_folO F T.toWds cr fPup mNum) (fun f fd F => F.binds fun _ _ _ _ _ _ us hl => match us, hl with | [_, _], _ => rfl)
  have mLast : Md P w K mg base 1 CR "_last_ring" (spLastR CR) := mr.last.md (fun f fd F => ok_lastR F T.toWds cr) (fun f fd F => F.binds fun _ _ _ _ _ _ us hl => match us, hl with | [_], _ => rfl)
  have mFin : Md P w K mg base 3 CR "finish" (spFinO CR) := mr.fin.md (fun f fd F => ok_finO F T.toWds N.zrange N.zsum cr mFol mLast) (fun f fd F => F.binds fun _ _ _ _ _ _ us hl => match us, hl with | [_], _ => rfl)
  have mkrR : Mkr P w K mg base 5 CR "Rising" (spRInitO C CR) := mkR.mkr (fun f fd F => ok_rinitO F T.toWds cn M mCk cr fPup) (fun f fd F => F.binds fun _ _ _ _ _ _ us hl => match us, hl with | [_, _, _], _ => rfl)
  have fFor : Cf P w K mg base 7 "forced" (spForcedO C) := A.forced.cf (fun f fd F => ok_forcedO F cr mkrR mFin mNums) fun f fd F => F.binds fun _ _ _ _ _ _ us hl => match us, hl with | [_, _], _ => rfl
  have fEar : Cf P w K mg base 8 "earliest" (spForcedO C) := A.ear.cf (fun f fd F => ok_earO F fFor) fun f fd F => F.binds fun _ _ _ _ _ _ us hl => match us, hl with | [_, _], _ => rfl
  have fFR : Cf P w K mg base 7 "find_ring" (spFRO C) := A.fring.cf (fun f fd F => ok_findringO F T.toWds cn M cr mkrR mFin) fun f fd F => F.binds fun _ _ _ _ _ _ us hl => match us, hl with | [_], _ => rfl
  have fHT : Cf P w K mg base 8 "has_timetable" (spHT C) := A.ht.cf (fun f fd F => ok_HT F fFR) fun f fd F => F.binds fun _ _ _ _ _ _ us hl => match us, hl with | [_], _ => rfl
  have cP : Cb P w K mg base 1 "_law_pick" spPick := A.pick.cb (fun f fd F => ok_pick F N.zlen N.zmax N.zint) fun f fd F => F.binds fun _ _ _ _ _ _ us hl => match us, hl with | [_, _], _ => rfl
  have cO : Cb P w K mg base 2 "_law_of" spOf := A.of.cb (fun f fd F => ok_of F N.zlen cP) fun f fd F => F.binds fun _ _ _ _ _ _ us hl => match us, hl with | [_, _], _ => rfl
  have cSrc : Cb P w K mg base 1 "_law_source" (spSource K) := A.source.cb (fun f fd F => ok_source F N.zabs N.zint) fun f fd F => F.binds fun _ _ _ _ _ _ us hl => match us, hl with | [_], _ => rfl
  have cU : Cb P w K mg base 1 "_law_up" spLUpX := A.lup.cb (fun f fd F => ok_lupX F T) fun f fd F => F.binds fun _ _ _ _ _ _ us hl => match us, hl with | [_, _], _ => rfl
  have cPer : Cb P w K mg base 1 "_law_period" spLPer := A.lper.cb (fun f fd F => ok_lper F T) fun f fd F => F.binds fun _ _ _ _ _ _ us hl => match us, hl with | [_], _ => rfl
  have cRs : Cb P w K mg base 2 "_law_raised" (spRaisedO C) := A.raised.cb (fun f fd F => ok_raisedO F T N.zdict N.zsum cU cPer) fun f fd F => F.binds fun _ _ _ _ _ _ us hl => match us, hl with | [_, _], _ => rfl
  have cClk : Cb P w K mg base 1 "_law_clock" spClkL := A.clk.cb (fun f fd F => ok_clkL F) fun f fd F => F.binds fun _ _ _ _ _ _ us hl => match us, hl with | [_, _], _ => rfl
  have cLed : Cb P w K mg base 2 "_law_led" (spLed C) := A.led.cb (fun f fd F => ok_led F T N.zdict cU) fun f fd F => F.binds fun _ _ _ _ _ _ us hl => match us, hl with | [_, _, _, _], _ => rfl
  have cIsR : Cb P w K mg base 3 "_law_is_ring" (spIsR C) := A.isR.cb (fun f fd F => ok_isR F T cU cClk cPer cLed) fun f fd F => F.binds fun _ _ _ _ _ _ us hl => match us, hl with | [_, _], _ => rfl
  have cTold : Cb P w K mg base 4 "_law_is_told_ring" (spToldR C) := A.told.cb (fun f fd F => ok_toldR F T cIsR) fun f fd F => F.binds fun _ _ _ _ _ _ us hl => match us, hl with | [_, _], _ => rfl
  exact ok_law F T N.zsum mkr cSrc cO cP fFR.toB fHT.toB cTold cRs fEar.toB fFor.toB
theorem finish {h : Heap} {fa : Addr} (X : K.In h) (G : h.Ns mainGlobals mg) (mk : MkAt K mg "Network" C "Network.__init__" sInit) (mkR : MkAt K mg "Rising" CR "Rising.__init__" sRInit) (cn : ClsN K C) (cr : ClsR K CR) (m : Ms14 K C) (mr : MsR14 K CR) (A : Defs14 K mg) (N : Nil14 mg) (c : Con14 mg) (ha : mg "law" = some (.ref fa)) :
    ∃ fd : FuncData, (∀ (s : Shared) (u : Value), BindsTo s fd ⟨[u], []⟩ [("script", u)]) ∧ ∀ base : Heap, K.In base → base.Ns mainGlobals mg → FnG P w K mg base 9 fa fd ["script"] (spLaw K) := by
  obtain ⟨fd, b, F⟩ := the_law (P := P) (w := w) A N c cn cr mk mkR m mr ha
  exact ⟨fd, b, fun base _ _ => F base⟩
end
end K14
open PySem PySem.W PyProof.Rows
set_option maxRecDepth 100000 in
set_option maxHeartbeats 0 in
theorem PySem.Challenge.cw_roundticks_k14_great_numbers_and_slow_ri_holds : PySem.Challenge.rw_roundticks_k14_great_numbers_and_slow_ri.Holds := by
  w_on; o_law; k_head; (case hw => w_witness2)
  k_fill
  refine Rt.walk_g (l := PySem.Challenge.rw_roundticks_k14_great_numbers_and_slow_ri) (k := 9) (sp := K14.spLaw) (x := "script") rfl (by decide) rfl ⟨rfl, by decide, by decide⟩ (fun w h Y => PySem.W.kIn_of Y) ?F (fun K H a ns hl hS => ⟨a, ns, rfl, hS, hl, fun _ => rfl⟩)
  case F =>
    intro w mg fa h KX G hmg
    refine' K14.finish KX G ?mk ?mkR ?cn ?cr ?ms ?mr ?defs ?nils ?cons hmg
    case mk =>
      refine' Rt.mkat_mk KX G ?n ?mk ?kc ?a ?i ?l ?c ?k
      (case n => k_is)
      (case mk => k_is)
      (case kc => k_is)
      (case a => k_is)
      (case i => k_is)
      (case l => k_is)
      (case c => k_is)
      (case k => k_is)
    case mkR =>
      refine' Rt.mkat_mk KX G ?n ?mk ?kc ?a ?i ?l ?c ?k
      (case n => k_is)
      (case mk => k_is)
      (case kc => k_is)
      (case a => k_is)
      (case i => k_is)
      (case l => k_is)
      (case c => k_is)
      (case k => k_is)
    case cn => (constructor; (constructor <;> k_is); all_goals (unfold L2.NoAttr; k_is))
    case cr => (constructor; (constructor <;> k_is); all_goals (unfold L2.NoAttr; k_is))
    case ms =>
      constructor
      all_goals
        refine' Rt.mat_mk ?a ?i ?l ?c ?k
        (case a => k_is)
        (case i => k_is)
        (case l => k_is)
        (case c => k_is)
        (case k => k_is)
    case mr =>
      constructor
      all_goals
        refine' Rt.mat_mk ?a ?i ?l ?c ?k
        (case a => k_is)
        (case i => k_is)
        (case l => k_is)
        (case c => k_is)
        (case k => k_is)
    case defs =>
      constructor
      all_goals
        refine' Rt.at_mk KX G ?a ?l ?c ?k
        (case a => k_is)
        (case l => k_is)
        (case c => k_is)
        (case k => k_is)
    case nils =>
      constructor
      all_goals
        refine' PySem.W.mg_none_of KX G ?z
        (case z => k_is)
    case cons =>
      constructor
      (case let_ => exact ⟨_, PySem.W.mg_of KX G (by k_is)⟩)
      (case sgn => exact ⟨_, PySem.W.mg_of KX G (by k_is)⟩)
      (case lw => exact ⟨_, PySem.W.mg_of KX G (by k_is)⟩)
      (case gs => exact ⟨_, PySem.W.mg_of KX G (by k_is)⟩)
      (case lcm => exact PySem.W.mg_of KX G (by k_is))
