import PyProof.Rows.All
import Wide.All
import OpenK.AllK
import Wide.FinOn
import PyProof.LongRange
import PyProof.ReprRoads
import HandS.Base
import HandS.Call
import HandS.List
import HandS.Words
import HandS.WordsList
import HandS.Ends
import HandS.WordsDict
import HandS.Wide
import HandS.Comp
import HandS.Dict
import HandS.Style
import HandS.Text
import HandS.Walk
import HandS.DictComp
import HandS.IsInst
import HandS.Steps
import KE.KMathG
import HandS.Conv
import HandS.OwnEq
import HandS.NoneIn
import HandS.SortInts
import HandS.ExcInit
import HandS.ExcValue
import HandS.ExcField
import HandS.ExcIs
import KE.KExcIs
import KE.KExcInit
import HandS.Flow
import HandS.Lambda
import HandS.TryMany
import HandS.ExcOwn
import HandS.EndTab
import HandS.WordsExc
import HandS.TupAny
import KE.KExcLine
import PySem.Challenge.RW_roundticks_k07_whole_walks_led
set_option Elab.async false
set_option linter.all false
set_option maxRecDepth 100000
set_option maxHeartbeats 8000000
/-! own rules: far ranges, repr of data, promises under known guards -/
namespace Rt
open PySem PySem.Spec L2
open PyProof.Rows hiding St
/-! ### a range between any two ints -/
theorem turn_far {P : Program} {w : World} {K : PySem.W.Frag} {tg : Expr} (c : Addr) (lo : Int) (n : Nat) :
    Turn P w K tg (Itr lo n) [c] c (fun i h => IsLongIter h c (lo + ((i : Nat) : Int) * 1) ((n : Int) - ((i : Nat) : Int)) 1) := by
  constructor
  · exact List.mem_singleton.mpr rfl
  · intro i h st b hb
    cases List.mem_singleton.mp hb
    exact ⟨_, st, fun v z => by injection z⟩
  · intro i h h' st kp
    exact kp c (List.mem_singleton.mpr rfl) _ st
  · rintro X rfl rfl rfl calm i pins s σ H E I fresh st more
    obtain ⟨g0, g1, g2, g3, g4, g5⟩ := fresh c (List.mem_singleton.mpr rfl)
    refine (Walks.longrange (prog := X.prog) (w := X.w) (I.ok.hd calm) c lo 1 n).item i s _ _ more st fun v h' tk hv st' kp => ?_
    obtain ⟨t, rfl⟩ := hv
    have J : Inv X pins σ H { s with heap := h', toks := tk } :=
      I.turned (fun b o nb e => kp b o (fun z => nb (List.mem_singleton.mp z)) e) g0 g1 g3 g4 g5
    refine ⟨_, rfl, go_of (n := "longrange_iterator") (s := { s with heap := h', toks := tk }) st' rfl rfl (by decide) ?_⟩
    refine ⟨.int (lo + (i : Int)), H, J, ⟨t, by rw [Int.mul_one]⟩, ⟨rfl, rfl⟩, st', fun b hb => (fresh b hb).1⟩
  · rintro X rfl rfl rfl calm i pins s σ H E I fresh st over
    obtain ⟨g0, g1, g2, g3, g4, g5⟩ := fresh c (List.mem_singleton.mpr rfl)
    have le : (n : Int) - (i : Int) ≤ 0 := by have q : n ≤ i := over; omega
    exact wpAny_pyNext_long_end (I.ok.hd calm) st le fun h' kp =>
      ⟨rfl, I.turned (t' := s.toks) (fun b o nb e => kp b o nb e) g0 g1 g3 g4 g5⟩
  · intro A i s Q E st q
    exact wpAny_pyIter_longiter st q
section
variable {X : Cx} {tg : Expr}
theorem far_it {pins : List (Addr × Obj)} {σ : St} {H : Hp} {s : Shared} {R : It → Hp → Prop} {E : Value → Shared → Prop} {lo hi : Int} {t u v : Tok} {tk : Nat}
    (I : Inv X pins σ H s) (q : R (Itr lo (hi - lo).toNat) H) :
    wpAny (model X.prog X.w) X.A (pyIter (.ref s.heap.objs.size)) (PIE X pins σ tg R) E
      { s with heap := s.heap.push { cls := .type "range", data := .fields #[.int lo t, .int hi u, .int 1 v] }, toks := tk } := by
  have J : Inv X pins σ H { s with heap := s.heap.push { cls := .type "range", data := .fields #[.int lo t, .int hi u, .int 1 v] }, toks := tk } :=
    I.kept fun b o e => Heap.get?_push_of_some _ e
  have ez : lo + (((0 : Nat)) : Int) * 1 = lo := by simp
  have en : (((hi - lo).toNat : Nat) : Int) - ((0 : Nat) : Int) = Builtin.Range.rangeSize lo hi 1 := by
    rw [rangeSize_one]
    split <;> omega
  have fr : ∀ (h2 : Heap) (tk2 : Nat) (b : Addr), Inv X pins σ H { s with heap := h2, toks := tk2 } → b = h2.objs.size → FpOk X pins H b := fun h2 tk2 b J2 e => by
    subst e
    exact J2.fpOk (Nat.le_refl _) (J2.hok.fresh (Nat.le_refl _))
  cases sm : Builtin.Range.small lo hi 1 with
  | true =>
    refine wpAny_pyIter_range (IsRange.new ..) sm ?_
    refine ⟨_, [_], _, Itr lo (hi - lo).toNat, H, rfl, J.kept (t' := tk) fun b o e => Heap.get?_push_of_some _ e, turn_range _ lo (hi - lo).toNat, ?_, fun b hb => fr _ tk b J (List.mem_singleton.mp hb), q⟩
    show IsRangeIter _ _ (lo + (((0 : Nat)) : Int) * 1) ((((hi - lo).toNat : Nat) : Int) - ((0 : Nat) : Int)) 1
    rw [ez, en]
    exact Heap.get?_push_size _ rfl
  | false =>
    refine wpAny_pyIter_longrange (IsRange.new ..) sm ?_
    refine ⟨_, [_], _, Itr lo (hi - lo).toNat, H, rfl, J.kept (t' := tk) fun b o e => Heap.get?_push_of_some _ e, turn_far _ lo (hi - lo).toNat, ?_, fun b hb => fr _ tk b J (List.mem_singleton.mp hb), q⟩
    show IsLongIter _ _ (lo + (((0 : Nat)) : Int) * 1) ((((hi - lo).toNat : Nat) : Int) - ((0 : Nat) : Int)) 1
    rw [ez, en]
    exact Heap.get?_push_size _ rfl
def iFar (ta : TA) : TI := fun σ H R => ta σ H fun vs H1 => ∃ i j : Int, vs = [.int i, .int j] ∧ R (Itr i (j - i).toNat) H1
/-- for x in range(a, b), of ints of any size -/
theorem pi_far {a b : Expr} {ta : TA} {p pos : Pos} (hg : Gl X "range") (hm : X.mg "range" = none) (ha : PA X [a, b] ta)
    (h1 : starEach [a, b] X.env = [(false, eval a X.env), (false, eval b X.env)] := by rfl) (h2 : starEach [b] X.env = [(false, eval b X.env)] := by rfl) :
    PI X tg (.Call (.Name "range" p) [a, b] [] pos) (iFar ta) := by
  constructor
  intro pins s σ H R I h
  have two := thn (ha.run pos pins s σ H _ I h) (Q' := fun us s1 => wpAny (model X.prog X.w) X.A (call (.type "range") us) (fun v s2 => wpAny (model X.prog X.w) X.A (pyIter v) (PIE X pins σ tg R) X.xe s2) X.xe s1)
    fun us s1 ⟨vs, H1, I1, r1, i, j, e, q⟩ => by
      subst e
      obtain ⟨u1, u2, rfl, ⟨t1, rfl⟩, ⟨t2, rfl⟩⟩ := vals2 r1
      exact call_range_2 (far_it I1 q)
  refine PyProof.Rows.Call_ (ld_blt I hg hm boot_range (PyProof.Rows.callWith_type1 two ?_ ?_))
  · rw [h1, h2]
  · rw [h2]; rfl
end
end Rt
namespace Rt
open PySem PySem.Spec L2
open PyProof.Rows hiding St
/-! ### promises of defs that are called where no guard stands -/
structure FnG (P : Program) (w : World) (K : PySem.W.Frag) (mg : Str → Option Value) (base : Heap) (k : Nat) (f : Addr) (fd : FuncData) (ps : List Str) (sp : Sp) : Prop where
  many : ∀ vs H Q E, sp vs H Q E → vs.length = ps.length
  go : ∀ (A : Around), A.guards = some [] → Room k A → ∀ (outer : List Env) (s : Shared) (H : Hp) (args : Args) (us : List Value) (vs : List V) (Q : VK) (E : XK), Env0 P w K mg base A outer s H →
    BindsTo s fd args (ps.zip us) → Vals vs us → sp vs H Q E → codeAny (model P w) A (.call (.ref f) args) (CR CX0 outer P w H s Q E) s
section
variable {P : Program} {w : World} {K : PySem.W.Frag} {mg : Str → Option Value} {base : Heap}
theorem okG {x qual : Str} {st : Stmt} {f : Addr} {fd : FuncData} {N ps : List Str} {k : Nat} {sp : Sp} (F : Fun K x qual st f fd) (S : FnScope N ps (defScope st))
    (many : ∀ vs H Q E, sp vs H Q E → vs.length = ps.length)
    (body : ∀ (cdv : Value) (A : Around) (outer : List Env) (s : Shared) (H : Hp) (vs : List V) (Q : VK) (E : XK), A.guards = some [] →
      Room k (A.deeper (envOfC qual (defScope st) s.heap.objs.size f cdv)) → sp vs H Q E →
      ∃ t, PSs (cxOf CX0 P w K mg base N qual (defScope st) f cdv A outer s H E).nox (defBody st) t ∧ t { nx := fun _ H' => Q .non H', rt := Q } (start N vs) H) :
    FnG P w K mg base (k + 1) f fd ps sp := by
  obtain ⟨oc, od, kV, doc, pm, an, cdv, ct, osl, rfl, lk, hcd⟩ := F.ex
  refine ⟨many, ?_⟩
  intro A hg room outer s H args us vs Q E e0 bt rv want
  have size := many vs H Q E want
  have kin : K.In s.heap := e0.mod.kin.keeps fun b o e => (e0.bs b o e).1
  have noLim : s.heap.NoLimit := e0.mod.nolimit.keeps fun b o e => (e0.bs b o e).1
  refine codeAny_call_function room.depth (kin _ _ lk) rfl S.co S.gen rfl (PySem.W.codeRec_of kin hcd) (bt _ _ _ _ ?_)
  refine wpAny_newFunctionEnv_cells S.kind ?_ ?_
  · rintro ⟨nm, val⟩ mem
    exact (S.par nm (List.of_mem_zip mem).1).imp id fun c => ⟨c, PySem.W.cellsFrom_some _ _ _ (.inl c)⟩
  · rintro env rfl s1 entry
    refine ⟨noLim.keeps entry.toInCall.keep, codeAny_func ?_⟩
    obtain ⟨t, ht, now⟩ := body cdv A outer s H vs Q E hg (room.deeper _) want
    have J := inv_start (CX := CX0) (E := E) S room.hd e0 size rv entry
    refine wpAny_mono (ht.nox.run [] s1 (start N vs) H _ J now) (fun way s2 out => ?_) fun _ _ z => z
    cases way with
    | ret u =>
      obtain ⟨v, σ2, H2, J2, ru, q2⟩ := out
      exact ⟨v, H2, J2.os, J2.bare, J2.base, J2.hok, ru, q2⟩
    | next =>
      obtain ⟨σ2, H2, J2, q2⟩ := out
      exact ⟨V.non, H2, J2.os, J2.bare, J2.base, J2.hok, rfl, q2⟩
    | brk => exact out.elim fun _ z => z.elim fun _ y => y.2.elim
    | cont => exact out.elim fun _ z => z.elim fun _ y => y.2.elim
end
/-- a def of the module that may be called by its name -/
structure Cb (P : Program) (w : World) (K : PySem.W.Frag) (mg : Str → Option Value) (base : Heap) (k : Nat) (x : Str) (sp : Sp) : Prop where
  ex : ∃ (f : Addr) (fd : FuncData) (ps : List Str), FnG P w K mg base k f fd ps sp ∧ mg x = some (.ref f) ∧ PySem.W.keepIn K (.ref f) = true ∧ Binds K fd ps []
section
variable {X : Cx} {k j : Nat} {x : Str} {sp : Sp} {p pos : Pos} {e : Expr} {es : List Expr} {t : TA}
theorem pe_k (c : Cb X.prog X.w X.K X.mg X.base k x sp) (hg : X.A.guards = some []) (hr : Room j X.A) (hk : k ≤ j) (hx : Gl X x) (ha : PA X (e :: es) t)
    (hdb : (x == ("__debug__" : Str)) = false := by decide) (he : starEach (e :: es) X.env = (false, eval e X.env) :: starEach es X.env := by rfl)
    (hpl : (backTo pos (starEach es X.env)).any (·.1) = false := by rfl) : PE X (.Call (.Name x p) (e :: es) [] pos) (tCall sp [] E0 t) := by
  obtain ⟨f, fd, ps, G, hm, kp, bd⟩ := c.ex
  constructor
  intro pins s σ H Q I want
  refine wpAny_Call_Name_kw (ld_glob I hx hm ?_ hdb)
  refine PySem.W.callWith_K (h₀ := X.base) I.ok.mod.kin kp (thn (ha.run pos pins s σ H _ I want) ?_) he hpl
  rintro us s1 ⟨vs, H1, J, rv, q⟩
  refine ⟨J.kIn, ?_⟩
  have q' : sp vs H1 Q E0 := by simpa using q
  have size : us.length = ps.length := by
    rw [← rv.length]
    exact G.many _ _ _ _ q'
  have b1 : BindsTo s1 fd ⟨us, []⟩ (ps.zip us) := by
    have z := bd s1 us J.kIn (by simpa using size)
    simpa using z
  refine wpAny_call (codeAny_mono (G.go X.A hg (hr.mono hk) X.stack s1 H1 ⟨us, []⟩ us vs Q E0 J.env0 b1 rv q') ?_)
  intro r s2 out
  match r, out with
  | .error _, z => exact False.elim z
  | .ok (.ret u), z => exact J.after z
  | .ok .next, z => exact False.elim z
  | .ok .brk, z => exact False.elim z
  | .ok .cont, z => exact False.elim z
end
end Rt
namespace Rt
open PySem PySem.Spec L2
open PyProof.Rows hiding St
/-! ### the law's own call -/
abbrev isTrue1 (s₁ : Shared) : Result → Shared → Prop := fun r s' => r = .ok (.ret (.bool true)) ∧ OldK s₁.heap s'.heap ∧ s'.os = s₁.os ∧ AllBare s'.gens
/-- nothing but the script is tracked, at most -/
structure Bare (H : Hp) (h : Heap) (K : PySem.W.Frag) (a : Addr) : Prop where
  only : Only H
  here : ∀ b, H b ≠ none → b = a
  notK : H a ≠ none → K.lookup a = none
section
variable {P : Program} {w : World} {K : PySem.W.Frag} {mg mb : Str → Option Value} {k : Nat} {fa a : Addr} {fd : FuncData} {x : Str} {sp : Sp} {s₁ : Shared} {vs : List Value} {ns : List Int}
theorem bare_call {H : Hp} (B : Bare H s₁.heap K a) (ok : HOk P w H s₁.heap) (KX : K.In s₁.heap) (hns : s₁.heap.Ns mainGlobals mg) (hb : s₁.heap.Ns builtinsNs mb) (hbb : ∀ x : Str, x ≠ "__name__" → mb x = bootBuiltins x)
    (lim : s₁.heap.NoLimit) (gens : s₁.gens = #[]) (ha : s₁.heap.get? a = some { cls := .type "list", data := .seq vs.toArray }) (room : Room k callerA)
    (F : ∀ base : Heap, K.In base → base.Ns mainGlobals mg → FnG P w K mg base k fa fd [x] sp) (bind : ∀ (s : Shared) (u : Value), BindsTo s fd ⟨[u], []⟩ [(x, u)])
    (want : sp [.ref a] H (fun v _ => v = .bl true) E0) : codeAny (model P w) callerA (.call (.ref fa) ⟨[.ref a], []⟩) (isTrue1 s₁) s₁ := by
  -- an object that is no list is untracked
  have dictFree : ∀ {b : Addr} {o : Obj} {es : Array DictEntry} {ep : Nat}, s₁.heap.get? b = some o → o.data = .dict es ep → H b = none := by
    intro b o es ep hb hd
    by_cases z : H b = none
    · exact z
    · exfalso
      cases B.here b z
      rw [ha] at hb
      cases hb
      exact nomatch hd
  have kFree : ∀ {b : Addr} {o : Obj}, K.lookup b = some o → H b = none := by
    intro b o hb
    by_cases z : H b = none
    · exact z
    · exfalso
      cases B.here b z
      rw [B.notK z] at hb
      cases hb
  have names : ∀ {b : Addr} {m : Str → Option Value}, s₁.heap.Ns b m → (hidT s₁.heap H).Ns b m := by
    rintro b m ⟨o, es, ep, e, d, r⟩
    exact ⟨o, es, ep, hidT_get e (dictFree e d), d, r⟩
  have inBase : K.In (hidT s₁.heap H) := fun b o e => hidT_get (KX b o e) (kFree e)
  have noLim : (hidT s₁.heap H).NoLimit := by
    obtain ⟨mc, z1, z2⟩ := lim
    exact ⟨mc, names z1, z2⟩
  have e0 : Env0 P w K mg (hidT s₁.heap H) callerA [] s₁ H := by
    constructor
    · rfl
    · exact ⟨inBase, names hns, ⟨mb, names hb, hbb⟩, noLim⟩
    · exact fun b o e => of_hidT e
    · exact Nat.le_of_eq (hidT_size _ _)
    · exact True.intro
    · exact fun b hb => nomatch (show b ∈ ([] : List Addr) from hb)
    · exact ok
    · exact .of_eq gens
  have run := (F _ inBase (names hns)).go callerA rfl room [] s₁ H ⟨[.ref a], []⟩ [.ref a] [.ref a] _ _ e0 (bind s₁ (.ref a)) (.cons rfl .nil) want
  refine codeAny_mono run ?_
  intro r s2 out
  match r, out with
  | .error _, z => exact False.elim z
  | .ok .next, z => exact False.elim z
  | .ok .brk, z => exact False.elim z
  | .ok .cont, z => exact False.elim z
  | .ok (.ret u), ⟨v, H2, os, bare, un, ok2, ru, q⟩ =>
    obtain rfl : v = .bl true := q
    obtain rfl : u = Value.bool true := ru
    refine ⟨rfl, OldK.of_keep ?_, os, bare⟩
    intro b o e
    by_cases z : H b = none
    · exact un.keep b o e z (fun y => nomatch (show b ∈ ([] : List Addr) from y)) (fun y => nomatch (show b ∈ ([] : List Addr) from y))
    · rcases B.only b with y | ⟨ob, xs, y⟩
      · exact absurd y z
      · have e1 := (ok b _ y).1
        have e2 := (ok2 b _ (un.frzs b ob _ y)).1
        rw [e] at e1
        cases e1
        exact e2
theorem law_g (KX : K.In s₁.heap) (hns : s₁.heap.Ns mainGlobals mg) (hb : s₁.heap.Ns builtinsNs mb) (hbb : ∀ x : Str, x ≠ "__name__" → mb x = bootBuiltins x) (lim : s₁.heap.NoLimit) (gens : s₁.gens = #[])
    (ha : s₁.heap.get? a = some { cls := .type "list", data := .seq vs.toArray }) (nums : IntsAre vs ns) (fit : ns.length ≤ sizeLine) (room : Room k callerA)
    (F : ∀ base : Heap, K.In base → base.Ns mainGlobals mg → FnG P w K mg base k fa fd [x] sp) (bind : ∀ (s : Shared) (u : Value), BindsTo s fd ⟨[u], []⟩ [(x, u)])
    (want : ∀ H : Hp, Only H → SqL K H a (ns.map V.int) → sp [.ref a] H (fun v _ => v = .bl true) E0) :
    codeAny (model P w) callerA (.call (.ref fa) ⟨[.ref a], []⟩) (isTrue1 s₁) s₁ := by
  have rv := vals_ints nums
  have lv := nums.length
  rcases hk : K.lookup a with _ | o
  · -- the script is no object of the module's own
    let H : Hp := fun b => if b = a then some (.frz { cls := .type "list", data := .seq vs.toArray } (.lst (ns.map V.int))) else none
    have Ha : H a = some (.frz { cls := .type "list", data := .seq vs.toArray } (.lst (ns.map V.int))) := if_pos rfl
    have Hn : ∀ b, b ≠ a → H b = none := fun b z => if_neg z
    have only : Only H := fun b => by
      by_cases z : b = a
      · subst z
        exact .inr ⟨_, _, Ha⟩
      · exact .inl (Hn b z)
    have here : ∀ b, H b ≠ none → b = a := fun b z => by
      by_cases y : b = a
      · exact y
      · exact absurd (Hn b y) z
    have ok : HOk P w H s₁.heap := fun b u e => by
      by_cases y : b = a
      · subst y
        rw [Ha] at e
        cases e
        refine ⟨ha, ?_, vs, _, rv, ha⟩
        rw [List.length_map]
        exact fit
      · rw [Hn b y] at e
        cases e
    exact bare_call ⟨only, here, fun _ => hk⟩ ok KX hns hb hbb lim gens ha room F bind (want H only (.inl (.inr ⟨_, Ha⟩)))
  · have e := KX a o hk
    rw [ha] at e
    cases e
    have only : Only (fun _ => none) := fun _ => .inl rfl
    refine bare_call (H := fun _ => none) ⟨only, fun b z => absurd rfl z, fun z => absurd rfl z⟩ (fun b u e => nomatch e) KX hns hb hbb lim gens ha room F bind ?_
    refine want _ only (.inr ⟨_, vs.toArray, _, hk, rfl, rfl, rfl, ?_, by simpa using rv⟩)
    rw [List.size_toArray, lv]
    exact fit
theorem walk_g {l : PySem.W.OpenLaw} {n k : Nat} {q : Program} {loose : List Str} {XP : (Str → Option Value) → Heap → Prop} {YP : World → Heap → Prop} {d : DefRec} {K : Params → PySem.W.Frag} {sp : PySem.W.Frag → Sp} {x : Str}
    (hn : l.most = some n) (le : n ≤ sizeLine) (noDf : d.params.defaults = []) (room : Room k callerA) (hY : ∀ (w : World) (h : Heap), YP w h → (K w.params).In h)
    (F : ∀ (w : World) (mg : Str → Option Value) (fa : Addr) (h : Heap), (K w.params).In h → h.Ns mainGlobals mg → mg d.name = some (.ref fa) →
      ∃ fd : FuncData, (∀ (s : Shared) (u : Value), BindsTo s fd ⟨[u], []⟩ [(x, u)]) ∧
        ∀ base : Heap, (K w.params).In base → base.Ns mainGlobals mg → FnG l.prog w (K w.params) mg base k fa fd [x] (sp (K w.params)))
    (want : ∀ (K : PySem.W.Frag) (H : Hp) (a : Addr) (ns : List Int), ns.length ≤ n → SqL K H a (ns.map V.int) → sp K [.ref a] H (fun v _ => v = .bl true) E0) :
    PySem.W.WalkO q loose XP YP l.row.toRowW d [] (fun f vs => PySem.call f vs) := by
  refine Att.attach_call hn noDf ?_
  intro w s₀ s₁ mg mb fa o pm cd doc a vs ns G Y ho hd hcd hmg hobj nums few gens
  obtain ⟨fd, bind, each⟩ := F w mg fa _ (hY w _ Y) G.T.g hmg
  exact law_g (hY w _ Y) G.T.g G.T.b G.T.builtins G.T.nolimit gens hobj nums (Nat.le_trans few le) room each bind fun H _ hS => want _ H a ns few hS
end
end Rt
namespace K07
open PySem PySem.Spec L2 Rt
open PyProof.Rows hiding St
def top (i : Nat) : Stmt := PySem.Challenge.pw_roundticks_k07_whole_walks_led.main.body.getD i (.Pass ⟨0, 0, 0, 0⟩)
abbrev sSource : Stmt := top 30
abbrev sPick : Stmt := top 31
abbrev sOf : Stmt := top 32
/-! ### the source of numbers -/
theorem n_cl : ¬ (("cells" : Str) = "left") := by decide +kernel
theorem n_cm : ¬ (("cells" : Str) = "mixed") := by decide +kernel
theorem n_ct : ¬ (("cells" : Str) = "turn") := by decide +kernel
theorem n_lm : ¬ (("left" : Str) = "mixed") := by decide +kernel
theorem n_lt : ¬ (("left" : Str) = "turn") := by decide +kernel
theorem n_mt : ¬ (("mixed" : Str) = "turn") := by decide +kernel
def srcK (c : Addr) (l m t : Int) : List (Key × V) := [(Sum.inr "cells", .ref c), (Sum.inr "left", .int l), (Sum.inr "mixed", .int m), (Sum.inr "turn", .int t)]
theorem ne_inr {a b : Str} (h : ¬ a = b) : ¬ ((Sum.inr a : Key) = Sum.inr b) := fun e => h (Sum.inr.inj e)
theorem val_cells (c : Addr) (l m t : Int) : valV (srcK c l m t) (Sum.inr "cells") = some (.ref c) := valV_pos rfl
theorem val_left (c : Addr) (l m t : Int) : valV (srcK c l m t) (Sum.inr "left") = some (.int l) := by
  unfold srcK
  rw [valV_neg (ne_inr n_cl), valV_pos rfl]
theorem val_mixed (c : Addr) (l m t : Int) : valV (srcK c l m t) (Sum.inr "mixed") = some (.int m) := by
  unfold srcK
  rw [valV_neg (ne_inr n_cm), valV_neg (ne_inr n_lm), valV_pos rfl]
theorem val_turn (c : Addr) (l m t : Int) : valV (srcK c l m t) (Sum.inr "turn") = some (.int t) := by
  unfold srcK
  rw [valV_neg (ne_inr n_ct), valV_neg (ne_inr n_lt), valV_neg (ne_inr n_mt), valV_pos rfl]
theorem put_left (c : Addr) (l m t z : Int) : putK (srcK c l m t) (Sum.inr "left") (.int z) = srcK c z m t := by
  have h1 := ne_inr n_cl
  have h2 := ne_inr (fun e => n_lm e.symm)
  have h3 := ne_inr (fun e => n_lt e.symm)
  unfold putK srcK
  simp [h1, h2, h3]
theorem put_mixed (c : Addr) (l m t z : Int) : putK (srcK c l m t) (Sum.inr "mixed") (.int z) = srcK c l z t := by
  have h1 := ne_inr n_cm
  have h2 := ne_inr n_lm
  have h3 := ne_inr (fun e => n_mt e.symm)
  unfold putK srcK
  simp [h1, h2, h3]
theorem put_turn (c : Addr) (l m t z : Int) : putK (srcK c l m t) (Sum.inr "turn") (.int z) = srcK c l m z := by
  have h1 := ne_inr n_ct
  have h2 := ne_inr n_lt
  have h3 := ne_inr n_mt
  unfold putK srcK
  simp [h1, h2, h3]
section
variable {H : Hp} {d c : Addr} {l m t : Int}
theorem get_cells (h : H d = some (.dK (srcK c l m t))) : DGet H d (.str "cells") (some (.ref c)) := by
  have z := DGet.k (k := (Sum.inr "cells" : Key)) h
  rw [val_cells] at z
  exact z
theorem get_left (h : H d = some (.dK (srcK c l m t))) : DGet H d (.str "left") (some (.int l)) := by
  have z := DGet.k (k := (Sum.inr "left" : Key)) h
  rw [val_left] at z
  exact z
theorem get_mixed (h : H d = some (.dK (srcK c l m t))) : DGet H d (.str "mixed") (some (.int m)) := by
  have z := DGet.k (k := (Sum.inr "mixed" : Key)) h
  rw [val_mixed] at z
  exact z
theorem get_turn (h : H d = some (.dK (srcK c l m t))) : DGet H d (.str "turn") (some (.int t)) := by
  have z := DGet.k (k := (Sum.inr "turn" : Key)) h
  rw [val_turn] at z
  exact z
theorem few4 : (srcK c l m t).length < sizeLine := by show 4 < sizeLine; decide
theorem st_left (h : H d = some (.dK (srcK c l m t))) (z : Int) : DPut H d (.str "left") (.int z) (upd H d (.dK (srcK c z m t))) := by
  have q := DPut.k (k := (Sum.inr "left" : Key)) (v := .int z) h few4
  rw [put_left] at q
  exact q
theorem st_mixed (h : H d = some (.dK (srcK c l m t))) (z : Int) : DPut H d (.str "mixed") (.int z) (upd H d (.dK (srcK c l z t))) := by
  have q := DPut.k (k := (Sum.inr "mixed" : Key)) (v := .int z) h few4
  rw [put_mixed] at q
  exact q
theorem st_turn (h : H d = some (.dK (srcK c l m t))) (z : Int) : DPut H d (.str "turn") (.int z) (upd H d (.dK (srcK c l m z))) := by
  have q := DPut.k (k := (Sum.inr "turn" : Key)) (v := .int z) h few4
  rw [put_turn] at q
  exact q
end
/-- a source stands at d, its cells at c -/
structure Src (H : Hp) (d c : Addr) : Prop where
  ex : ∃ (ks : List Int) (l m t : Int), H d = some (.dK (srcK c l m t)) ∧ H c = some (.lst (ks.map V.int))
/-- all but the source stands as it was -/
def Keep (d c : Addr) (H H' : Hp) : Prop := ∀ b o, H b = some o → b ≠ d → b ≠ c → H' b = some o
theorem Keep.refl {d c : Addr} {H : Hp} : Keep d c H H := fun _ _ e _ _ => e
theorem Keep.trans {d c : Addr} {H H1 H2 : Hp} (a : Keep d c H H1) (b : Keep d c H1 H2) : Keep d c H H2 := fun x o e n1 n2 => b x o (a x o e n1 n2) n1 n2
theorem Keep.new {d c p : Addr} {o : HO} {H H1 : Hp} (a : Keep d c H H1) (n : H1 p = none) : Keep d c H (upd H1 p o) := fun x u e n1 n2 => by
  have z := a x u e n1 n2
  rw [upd_ne (ne_of_none z n)]
  exact z
theorem Keep.d {d c : Addr} {o : HO} {H H1 : Hp} (a : Keep d c H H1) : Keep d c H (upd H1 d o) := fun x u e n1 n2 => by
  rw [upd_ne n1]
  exact a x u e n1 n2
theorem Keep.c {d c : Addr} {o : HO} {H H1 : Hp} (a : Keep d c H H1) : Keep d c H (upd H1 c o) := fun x u e n1 n2 => by
  rw [upd_ne n2]
  exact a x u e n1 n2
theorem Src.new {d c p : Addr} {o : HO} {H : Hp} (S : Src H d c) (n : H p = none) : Src (upd H p o) d c := by
  obtain ⟨ks, l, m, t, h1, h2⟩ := S.ex
  exact ⟨ks, l, m, t, by rw [upd_ne (ne_of_none h1 n)]; exact h1, by rw [upd_ne (ne_of_none h2 n)]; exact h2⟩
theorem Src.nd {d c : Addr} {H : Hp} {b : Addr} {xs : List V} (S : Src H d c) (h : H b = some (.tup xs)) : b ≠ d ∧ b ≠ c := by
  obtain ⟨ks, l, m, t, h1, h2⟩ := S.ex
  exact ⟨ne_of h h1 (by intro z; cases z), ne_of h h2 (by intro z; cases z)⟩
theorem Keep.tup {d c : Addr} {H H1 : Hp} {b : Addr} {xs : List V} (a : Keep d c H H1) (S : Src H d c) (h : H b = some (.tup xs)) : H1 b = some (.tup xs) := a b _ h (S.nd h).1 (S.nd h).2
/-! ### the promises -/
def spSource (K : PySem.W.Frag) : Sp := fun vs H Q _ => ∃ (a : Addr) (ns : List Int), vs = [.ref a] ∧ SqL K H a (ns.map V.int) ∧ ns.length ≤ 63 ∧
  ∀ (d c : Addr) (H' : Hp), H d = none → H c = none → Src H' d c → Same H H' → Q (.ref d) H'
def spPick : Sp := fun vs H Q _ => ∃ (d c : Addr) (n : Int), vs = [.ref d, .int n] ∧ Src H d c ∧ n < 1000000000 ∧
  ∀ (r : Int) (H' : Hp), 0 ≤ r → r < n ∨ r = 0 → Src H' d c → Keep d c H H' → Q (.int r) H'
def spOf : Sp := fun vs H Q _ => ∃ (d c p : Addr) (xs : List V), vs = [.ref d, .ref p] ∧ Src H d c ∧ H p = some (.lst xs) ∧ p ≠ c ∧ 0 < xs.length ∧ xs.length < 1000000000 ∧
  ∀ (i : Nat) (v : V) (H' : Hp), xs[i]? = some v → Src H' d c → Keep d c H H' → Q v H'
section
variable {P : Program} {w : World} {K : PySem.W.Frag} {mg : Str → Option Value} {base : Heap}
theorem scPick : FnScope ["source", "many", "left", "mixed"] ["source", "many"] (defScope sPick) := ⟨rfl, rfl, rfl, by decide +kernel, rfl, by decide +kernel, by decide +kernel⟩
theorem ok_pick {f : Addr} {fd : FuncData} (F : Fun K "_law_pick" "_law_pick" sPick f fd) (mL : mg "len" = none) (mM : mg "max" = none) (mI : mg "int" = none) : FnG P w K mg base 1 f fd ["source", "many"] spPick := by
  refine okG F scPick (fun vs H Q E h => ?_) (fun cdv A outer s H vs Q E hg hr h => ?_)
  · obtain ⟨d, c, n, rfl, _⟩ := h
    rfl
  · obtain ⟨d, c, n, rfl, S, hn, k⟩ := h
    have hu := hu_of hr
    refine ⟨_, pss_cons (ps_while PassesOwn.never
        (PW.pt (pw_and (pt_cmpR op_gt (pv 1) pe_int (nomark _)) (pw_and (pt_cmpR op_lt (pe_dget hu (pv 0) pe_str (fun _ _ => rfl)) pe_int (nomark _))
          (pw_and1 (pt_cmpR op_gt (pe_callB call_len_seq (by rfl) mL PySem.boot_len (pa_cons (pe_dget hu (pv 0) pe_str (fun _ _ => rfl)) pa_nil)) pe_int (nomark _))))))
        (pss_one (ps_dput hu (pv 0) pe_str (pe_bm0 PySem.F.plainAttrs_list PySem.F.slot_list_pop PySem.F.type_list_pop mt_pop (pe_dget hu (pv 0) pe_str (fun _ _ => rfl))) rfl)))
      (pss_cons (ps_set (i := 2) scPick.nd rfl (.inl rfl) (pe_dget hu (pv 0) pe_str (fun _ _ => rfl)))
      (pss_cons (ps_if (PW.pt (pw_or (pt_cmpR op_lt (pv 1) pe_int (nomark _)) (pw_or1 (pt_cmpR op_gt (pv 2) pe_int (nomark _)))))
        (pss_cons (ps_dput hu (pv 0) pe_str (pe_op op_fdivW (pv 2) (pe_callB (call_max2 rfl) (by rfl) mM (by decide +kernel) (pa_cons pe_int (pa_cons (pv 1) pa_nil)))) rfl)
          (pss_one (ps_ret (pe_op op_mod (pe_callTy call_int1 (by rfl) mI (by decide +kernel) (pa_cons (pv 2) pa_nil)) (pe_callB (call_max2 rfl) (by rfl) mM (by decide +kernel) (pa_cons pe_int (pa_cons (pv 1) pa_nil)))))))
        pss_nil)
      (pss_cons (ps_dput hu (pv 0) pe_str (pe_op op_add (pe_dget hu (pv 0) pe_str (fun _ _ => rfl)) pe_int) rfl)
      (pss_cons (ps_set (i := 3) scPick.nd rfl (.inl rfl) (pe_op op_mod (pe_callTy call_int1 (by rfl) mI (by decide +kernel) (pa_cons (pe_op op_add (pe_dget hu (pv 0) pe_str (fun _ _ => rfl)) (pe_op op_mul (pe_dget hu (pv 0) pe_str (fun _ _ => rfl)) pe_int)) pa_nil)) pe_int))
      (pss_cons (ps_set (i := 3) scPick.nd rfl (.inl rfl) (pe_op op_mod (pe_callTy call_int1 (by rfl) mI (by decide +kernel) (pa_cons (pe_op op_add (pe_op op_mul (pv 3) (pv 3)) (pe_op op_mul (pe_dget hu (pv 0) pe_str (fun _ _ => rfl)) pe_int)) pa_nil)) pe_int))
      (pss_cons (ps_dput hu (pv 0) pe_str (pv 3) rfl)
      (pss_one (ps_ret (pe_op op_mod (pe_callTy call_int1 (by rfl) mI (by decide +kernel) (pa_cons (pe_op op_fdiv (pv 3) pe_int) pa_nil)) (pv 1)))))))))), ?_⟩
    obtain ⟨ks0, l0, m0, t0, e1, e2⟩ := S.ex
    have dc : d ≠ c := ne_of e1 e2 (by intro z; cases z)
    -- while many > 1 and source['left'] < 2 and len(source['cells']) > 0
    refine ⟨fun m σ H1 => ∃ (ks : List Int) (l mx t : Int), m = ks.length ∧ σ = [some (.ref d), some (.int n), none, none] ∧ Keep d c H H1 ∧ H1 d = some (.dK (srcK c l mx t)) ∧ H1 c = some (.lst (ks.map V.int)),
      ⟨_, ks0, l0, m0, t0, rfl, rfl, Keep.refl, e1, e2⟩, ?_⟩
    rintro m σ H1 ⟨ks, l, mx, t, rfl, rfl, kp, hd, hc⟩
    refine ⟨_, rfl, _, _, rfl, rfl, _, rfl, ?_⟩
    by_cases g : 1 < n ∧ l < 2 ∧ 0 < ks.length
    · obtain ⟨g1, g2, g3⟩ := g
      rw [decide_eq_true g1]
      refine iteT ?_
      refine ⟨_, rfl, d, _, rfl, get_left hd, _, _, rfl, rfl, _, rfl, ?_⟩
      rw [decide_eq_true g2]
      refine iteT ?_
      refine ⟨_, rfl, d, _, rfl, get_cells hd, c, _, rfl, .inl (.inl (.inl hc)), _, _, rfl, rfl, _, rfl, ?_⟩
      rw [decide_eq_true (show (0 : Int) < ((ks.map V.int).length : Int) by rw [List.length_map]; omega)]
      refine iteT ?_
      obtain ⟨z, hz⟩ : ∃ z, ks[ks.length - 1]? = some z := ⟨ks[ks.length - 1], List.getElem?_eq_getElem (by omega)⟩
      refine ⟨fun σ2 H2 => σ2 = [some (.ref d), some (.int n), none, none] ∧ Keep d c H H2 ∧ H2 d = some (.dK (srcK c z mx t)) ∧ H2 c = some (.lst (ks.dropLast.map V.int)), ?_, ?_⟩
      · rintro σ2 H2 ⟨rfl, k2, d2, c2⟩
        refine ⟨ks.dropLast.length, ?_, ks.dropLast, z, mx, t, rfl, rfl, k2, d2, c2⟩
        rw [List.length_dropLast]
        omega
      · -- source['left'] = source['cells'].pop()
        have cd : d ≠ c := dc
        have hd2 : (upd H1 c (.lst (ks.map V.int).dropLast)) d = some (.dK (srcK c l mx t)) := by rw [upd_ne cd]; exact hd
        refine ⟨_, rfl, d, _, rfl, get_cells hd, .inl ⟨rfl, _, .inl (.inl hc)⟩, c, _, .int z, rfl, rfl, hc, ?_, _, rfl, d, _, rfl, st_left hd2 z, ?_⟩
        · rw [List.length_map, List.getElem?_map, hz]
          rfl
        · refine ⟨rfl, (kp.c).d, upd_same, ?_⟩
          rw [upd_ne cd.symm, upd_same, List.map_dropLast]
    · have nolen : 1 < n → l < 2 → ¬ (0 : Int) < ((ks.map V.int).length : Int) := fun g1 g2 g3 => g ⟨g1, g2, by rw [List.length_map] at g3; omega⟩
      refine (fun (fin : (?T : Prop)) => ?main) ?after
      case main =>
        by_cases g1 : 1 < n
        · rw [decide_eq_true g1]
          refine iteT ?_
          refine ⟨_, rfl, d, _, rfl, get_left hd, _, _, rfl, rfl, _, rfl, ?_⟩
          by_cases g2 : l < 2
          · rw [decide_eq_true g2]
            refine iteT ?_
            refine ⟨_, rfl, d, _, rfl, get_cells hd, c, _, rfl, .inl (.inl (.inl hc)), _, _, rfl, rfl, _, rfl, ?_⟩
            rw [decide_eq_false (nolen g1 g2)]
            refine iteF ?_
            exact fin
          · rw [decide_eq_false g2]
            exact iteF (iteF fin)
        · rw [decide_eq_false g1]
          exact iteF (iteF fin)
      case after =>
        -- left = source['left']
        refine ⟨_, rfl, d, _, rfl, get_left hd, ?_⟩
        have mx1 : ∀ n : Int, 0 < (if n > 1 then n else (1 : Int)) := fun n => by split <;> omega
        have mx2 : n < 1000000000 → (if n > 1 then n else (1 : Int)).natAbs < 2 ^ 60 := fun z => by split <;> omega
        -- if many < 2 or left > 1
        refine ⟨_, rfl, _, _, rfl, rfl, _, rfl, ?_⟩
        by_cases g : n < 2 ∨ 1 < l
        · by_cases g1 : n < 2
          all_goals first
            | (rw [decide_eq_true (show n < 2 by assumption)]
               refine iteT (iteT ?_))
            | (rw [decide_eq_false (show ¬ n < 2 by assumption)]
               refine iteF ?_
               refine ⟨_, rfl, _, _, rfl, rfl, _, rfl, ?_⟩
               rw [decide_eq_true (g.resolve_left g1)]
               refine iteT ?_)
          all_goals
            -- source['left'] = left // max(1, many); return int(left) % max(1, many)
            refine ⟨_, rfl, _, rfl, _, _, rfl, _, _, rfl, rfl, wide_div (mx1 n) (mx2 hn) (by decide) (by decide), _, rfl, d, _, rfl, st_left hd _, ?_⟩
            refine ⟨_, rfl, .inl ⟨_, rfl, _, rfl, _, _, rfl, _, _, rfl, rfl, mx1 n, ?_⟩⟩
            refine k _ _ (Int.emod_nonneg _ (Int.ne_of_gt (mx1 n))) ?_ ⟨ks, _, mx, t, upd_same, ?_⟩ kp.d
            · have z := Int.emod_lt_of_pos l (mx1 n)
              have z0 := Int.emod_nonneg l (Int.ne_of_gt (mx1 n))
              by_cases y : n > 1
              · rw [if_pos y] at z z0 ⊢
                exact .inl z
              · rw [if_neg y] at z z0 ⊢
                right
                omega
            · rw [upd_ne dc.symm]
              exact hc
        · rw [decide_eq_false (fun z => g (.inl z))]
          refine iteF ?_
          refine ⟨_, rfl, _, _, rfl, rfl, _, rfl, ?_⟩
          rw [decide_eq_false (fun z => g (.inr z))]
          refine iteF ?_
          have g1 : ¬ n < 2 := fun z => g (.inl z)
          -- source['turn'] = source['turn'] + 1
          refine ⟨_, rfl, d, _, rfl, get_turn hd, _, _, rfl, rfl, _, rfl, d, _, rfl, st_turn hd (t + 1), ?_⟩
          have hd2 : (upd H1 d (.dK (srcK c l mx (t + 1)))) d = some (.dK (srcK c l mx (t + 1))) := upd_same
          -- mixed = int(source['mixed'] + source['turn'] * 104729) % 998244353
          refine ⟨_, rfl, d, _, rfl, get_mixed hd2, _, rfl, d, _, rfl, get_turn hd2, _, _, rfl, rfl, .inr ⟨by decide, by decide⟩, _, _, rfl, rfl, .inl ⟨_, rfl, _, _, rfl, rfl, (by show (0 : Int) < 998244353; decide), ?_⟩⟩
          have b1 : 0 ≤ (mx + (t + 1) * 104729) % 998244353 := Int.emod_nonneg _ (by decide)
          have b2 : (mx + (t + 1) * 104729) % 998244353 < 998244353 := Int.emod_lt_of_pos _ (by decide)
          generalize (mx + (t + 1) * 104729) % 998244353 = y at b1 b2 ⊢
          -- mixed = int(mixed * mixed + source['turn'] * 17) % 2147483647
          refine ⟨_, rfl, _, rfl, _, _, rfl, rfl, .inl ⟨by omega, by omega⟩, _, rfl, d, _, rfl, get_turn hd2, _, _, rfl, rfl, .inr ⟨by decide, by decide⟩, _, _, rfl, rfl, .inl ⟨_, rfl, _, _, rfl, rfl, (by show (0 : Int) < 2147483647; decide), ?_⟩⟩
          -- source['mixed'] = mixed; return int(mixed // 16) % many
          refine ⟨_, rfl, _, rfl, d, _, rfl, st_mixed hd2 _, ?_⟩
          refine ⟨_, rfl, _, _, rfl, rfl, ⟨by decide, by decide⟩, .inl ⟨_, rfl, _, rfl, _, _, rfl, rfl, (by show (0 : Int) < n; omega), ?_⟩⟩
          refine k _ _ (Int.emod_nonneg _ (by omega)) (.inl (Int.emod_lt_of_pos _ (by omega))) ⟨ks, l, _, t + 1, upd_same, ?_⟩ (kp.d).d
          rw [upd_ne dc.symm, upd_ne dc.symm]
          exact hc
theorem scOf : FnScope ["source", "some"] ["source", "some"] (defScope sOf) := ⟨rfl, rfl, rfl, by decide +kernel, rfl, by decide +kernel, by decide +kernel⟩
theorem ok_of {f : Addr} {fd : FuncData} (F : Fun K "_law_of" "_law_of" sOf f fd) (mL : mg "len" = none) (CP : Cb P w K mg base 1 "_law_pick" spPick) : FnG P w K mg base 2 f fd ["source", "some"] spOf := by
  refine okG F scOf (fun vs H Q E h => ?_) (fun cdv A outer s H vs Q E hg hr h => ?_)
  · obtain ⟨d, c, p, xs, rfl, _⟩ := h
    rfl
  · obtain ⟨d, c, p, xs, rfl, S, hp, pc, h0, hl, k⟩ := h
    refine ⟨_, pss_one (ps_ret (pe_ix ix_list (pv 1) (pe_k CP hg hr (by decide) (by rfl) (pa_cons (pv 0) (pa_cons (pe_callB call_len_seq (by rfl) mL PySem.boot_len (pa_cons (pv 1) pa_nil)) pa_nil))) (fun _ _ => rfl))), ?_⟩
    refine ⟨_, rfl, _, rfl, _, rfl, p, _, rfl, .inl (.inl (.inl hp)), d, c, _, rfl, S, (by omega), ?_⟩
    intro r H1 r0 r1 S1 kp
    have rn : r < xs.length := by omega
    obtain ⟨j, ej⟩ : ∃ j : Nat, r = (j : Int) := ⟨r.toNat, by omega⟩
    have hj : j < xs.length := by omega
    have pd : p ≠ d := by
      obtain ⟨ks, l, m, t, q1, q2⟩ := S.ex
      exact ne_of hp q1 (by intro z; cases z)
    refine ⟨p, xs, r, xs[j], rfl, rfl, .inl (.inl (kp p _ hp pd pc)), at_of (j := j) ej (List.getElem?_eq_getElem hj), ?_⟩
    exact k j xs[j] H1 (List.getElem?_eq_getElem hj) S1 kp
end
end K07
namespace K07
open PySem PySem.Spec L2 Rt
open PyProof.Rows hiding St
theorem merge_src (c : Addr) (l m t : Int) : mergeK [] (srcK c l m t) = srcK c l m t := by
  have h1 := ne_inr n_cl
  have h2 := ne_inr n_cm
  have h3 := ne_inr n_ct
  have h4 := ne_inr n_lm
  have h5 := ne_inr n_lt
  have h6 := ne_inr n_mt
  unfold mergeK srcK putK
  simp [h1, h2, h3, h4, h5, h6]
/-- an item of a list of ints -/
theorem int_at {ns : List Int} {i : Nat} {y : V} (h : (ns.map V.int)[i]? = some y) : ∃ z, ns[i]? = some z ∧ y = V.int z := by
  rw [List.getElem?_map] at h
  cases e : ns[i]? with
  | none => rw [e] at h; cases h
  | some z => rw [e] at h; exact ⟨z, rfl, (Option.some.inj h).symm⟩
theorem same_new {H : Hp} {p : Addr} {o : HO} (n : H p = none) : Same H (upd H p o) := fun b u e => by
  rw [upd_ne (ne_of_none e n)]
  exact e
section
variable {P : Program} {w : World} {K : PySem.W.Frag} {mg : Str → Option Value} {base : Heap}
theorem scSource : FnScope ["script", "mixed", "cell"] ["script"] (defScope sSource) := ⟨rfl, rfl, rfl, by decide +kernel, rfl, by decide +kernel, by decide +kernel⟩
theorem ok_source {f : Addr} {fd : FuncData} (F : Fun K "_law_source" "_law_source" sSource f fd) (mA : mg "abs" = none) (mI : mg "int" = none) : FnG P w K mg base 1 f fd ["script"] (spSource K) := by
  refine okG F scSource (fun vs H Q E h => ?_) (fun cdv A outer s H vs Q E hg hr h => ?_)
  · obtain ⟨a, ns, rfl, _⟩ := h
    rfl
  · obtain ⟨a, ns, rfl, hS, hl, k⟩ := h
    refine ⟨_, pss_cons (ps_set (i := 1) scSource.nd rfl (.inl rfl) pe_int)
      (pss_cons (ps_for PassesOwn.never rfl (pi_list (pv 0)) (pg_name (i := 2) scSource.nd rfl (.inl rfl))
        (pss_one (ps_set (i := 1) scSource.nd rfl (.inl rfl) (pe_op op_mod (pe_callTy call_int1 (by rfl) mI (by decide +kernel)
          (pa_cons (pe_op op_add (pe_op op_add (pe_op op_mul (pv 1) pe_int) (pe_op op_mul (pv 2) pe_int)) pe_int) pa_nil)) pe_int))))
      (pss_one (ps_ret (pe_disp (pps_cons pe_str (pe_revL (pe_lc (own := [("cell", 2)]) (g := gName 2) (tt := tYes) rfl scSource.nd (pi_list (pv 0))
          (blkOk_by (N := ["script", "mixed", "cell"]) (sc := defScope sSource) (by decide +kernel)) (fun _ _ _ _ _ => pg_name (i := 2) scSource.nd rfl (Or.inl rfl)) (fun _ _ _ _ _ => pts_nil)
          (fun _ _ _ _ _ => pe_callB call_abs (by rfl) mA (by decide +kernel) (pa_cons (pv 2) pa_nil))))
        (pps_cons pe_str pe_int (pps_cons pe_str (pv 1) (pps_cons pe_str pe_int pps_nil)))) (by rfl) (by rfl) (fun z => by cases z) (by decide))))), ?_⟩
    refine ⟨_, rfl, a, rfl, ⟨_, hS⟩, for_list (K := K) (a := a) (xs := ns.map V.int) (fun i σ H2 => ∃ (m : Int) (v : Option V), σ = [some (.ref a), some (.int m), v] ∧ H2 = H)
      ⟨11, none, rfl, rfl⟩ (fun i σ H2 _ ⟨_, _, _, e⟩ => by rw [e]; exact hS) ?_ ?_⟩
    · rintro i y σ H2 hi ⟨m, v, rfl, rfl⟩
      obtain ⟨z, hz, rfl⟩ := int_at hi
      refine ⟨_, rfl, _, _, rfl, rfl, .inr ⟨by decide, by decide⟩, _, rfl, _, _, rfl, rfl, .inr ⟨by decide, by decide⟩, _, _, rfl, rfl, _, _, rfl, rfl, .inl ⟨_, rfl, _, _, rfl, rfl, (by show (0 : Int) < 2147483629; decide), ?_⟩⟩
      exact ⟨_, _, rfl, rfl⟩
    · rintro σ H2 ⟨m, v, rfl, rfl⟩
      intro p np
      have s1 := same_new (o := .dK []) np
      refine ⟨_, rfl, a, rfl, ⟨_, s1.seq hS⟩, fun D nD => ?_⟩
      have s2 := s1.trans (same_new (o := .lst []) nD)
      have npD : p ≠ D := ne_of_none upd_same nD
      refine lc_list (K := K) (a := a) (xs := ns.map V.int) (fun i H3 => Same H2 H3 ∧ H3 p = some (.dK []) ∧ ∃ ks : List Int, ks.length = i ∧ H3 D = some (.lst (ks.map V.int)))
        ⟨s2, by rw [upd_ne npD]; exact upd_same, [], rfl, upd_same⟩ (fun i H3 _ ⟨s3, _⟩ => s3.seq hS) ?_ ?_
      · rintro i y H3 hi ⟨s3, hp, ks, rfl, hD⟩
        obtain ⟨z, hz, rfl⟩ := int_at hi
        have il : ks.length < ns.length := (List.getElem?_eq_some_iff.mp hz).1
        refine ⟨rfl, _, rfl, _, rfl, _, hD, ?_, ?_⟩
        · rw [List.length_map]
          exact small1000 (by omega)
        · have nD2 : H2 D = none := s1.free nD
          refine ⟨fun b o e => by rw [upd_ne (ne_of_none e nD2)]; exact s3 b o e, by rw [upd_ne npD]; exact hp, ks ++ [if z < 0 then -z else z], by simp, ?_⟩
          rw [upd_same, List.map_append]
          rfl
      · rintro H3 ⟨s3, hp, ks, ek, hD⟩
        refine ⟨D, _, rfl, .inl (.inl hD), fun c nc => ?_⟩
        refine ⟨_, rfl, ?_, srcK c 1 m 0, rfl, (by show 4 ≤ 15; decide), ?_⟩
        · rw [upd_ne (ne_of_none hp nc)]
          exact hp
        · rw [merge_src]
          have pc : p ≠ c := ne_of_none hp nc
          refine k p c _ np (s3.free nc) ⟨ks.reverse, 1, m, 0, upd_same, ?_⟩ fun b o e => ?_
          · rw [upd_ne pc.symm, upd_same, List.map_reverse]
          · have z := s3 b o e
            rw [upd_ne (ne_of_none e np), upd_ne (ne_of_none z nc)]
            exact z
end
end K07
namespace K07
open PySem PySem.Spec L2 Rt
open PyProof.Rows hiding St
/-! ### words -/
abbrev LET : Str := "abcdefghijklmnopqrstuvwxyz"
abbrev SGN : Str := "abcdefghijklmnopqrstuvwxyz0123456789"
def digs (i : Int) : Str := cutS (Str.ofString (toString (100 + i))) (some 1) none
theorem digs_tab : ∀ n : Nat, n < 100 → (digs (n : Int)).cps.toList = [48 + n / 10, 48 + n % 10] := by decide +kernel
theorem app_list (a b : Str) : (a ++ b).cps.toList = a.cps.toList ++ b.cps.toList := by
  show (a.cps ++ b.cps).toList = _
  simp
structure Word (w : Str) : Prop where
  le : w.length ≤ 12
  hd : ∃ c r, w.cps.toList = c :: r ∧ c ∈ LET.cps.toList
  sg : ∀ x, x ∈ w.cps.toList → x ∈ SGN.cps.toList
def key (w : Str) : Nat := (w.cps.toList.getD 1 0 - 48) * 10 + (w.cps.toList.getD 2 0 - 48)
theorem let_sgn : ∀ x, x ∈ LET.cps.toList → x ∈ SGN.cps.toList := by decide +kernel
theorem dig_sgn : ∀ n : Nat, n < 10 → 48 + n ∈ SGN.cps.toList := by decide +kernel
def tailOk (t : Str) : Prop := t.length ≤ 9 ∧ ∀ x, x ∈ t.cps.toList → x ∈ SGN.cps.toList
theorem word_mk {c : Nat} {n : Nat} {t : Str} (hc : c ∈ LET.cps.toList) (hn : n < 100) (ht : tailOk t) : Word ((⟨#[c]⟩ ++ digs (n : Int)) ++ t) ∧ key ((⟨#[c]⟩ ++ digs (n : Int)) ++ t) = n := by
  have e : ((⟨#[c]⟩ ++ digs (n : Int)) ++ t : Str).cps.toList = c :: (48 + n / 10) :: (48 + n % 10) :: t.cps.toList := by
    rw [app_list, app_list, digs_tab n hn]
    rfl
  refine ⟨⟨?_, ⟨c, _, e, hc⟩, fun x hx => ?_⟩, ?_⟩
  · have l : ((⟨#[c]⟩ ++ digs (n : Int)) ++ t : Str).length = t.length + 3 := by
      show Array.size _ = _
      rw [← Array.length_toList, e]
      show t.cps.toList.length + 1 + 1 + 1 = t.cps.size + 3
      rw [Array.length_toList]
    rw [l]
    have := ht.1
    omega
  · rw [e] at hx
    rcases List.mem_cons.mp hx with rfl | hx
    · exact let_sgn _ hc
    · rcases List.mem_cons.mp hx with rfl | hx
      · exact dig_sgn _ (by omega)
      · rcases List.mem_cons.mp hx with rfl | hx
        · exact dig_sgn _ (by omega)
        · exact ht.2 _ hx
  · unfold key
    rw [e]
    show (48 + n / 10 - 48) * 10 + (48 + n % 10 - 48) = n
    omega
def place (s : Int) (k : Nat) : Nat := ((s + 37 * (k : Int)) % 100).toNat
theorem place_ne {s : Int} {a b : Nat} (h : a < b) (hb : b < 100) : place s a ≠ place s b := by
  unfold place
  omega
theorem nodup_of {s : Int} {ws : List Str} {n : Nat} (hn : n ≤ 100) (h : ws.map key = (List.range n).map (place s)) : ws.Nodup := by
  have h1 : ((List.range n).map (place s)).Pairwise (· ≠ ·) := by
    rw [List.pairwise_map]
    refine List.Pairwise.imp_of_mem (fun {a b} _ hb lt => ?_) (List.pairwise_lt_range (n := n))
    exact place_ne lt (Nat.lt_of_lt_of_le (List.mem_range.mp hb) hn)
  rw [← h] at h1
  exact List.Pairwise.of_map key (fun a b ne e => ne (congrArg key e)) h1
end K07
namespace K07
open PySem PySem.Spec L2 Rt
open PyProof.Rows hiding St
abbrev sNames : Stmt := top 33
def spNames : Sp := fun vs H Q _ => ∃ (d c : Addr) (n : Nat), vs = [.ref d, .int n] ∧ Src H d c ∧ n ≤ 100 ∧
  ∀ (L : Addr) (ws : List Str) (H' : Hp), H L = none → Src H' d c → Keep d c H H' → H' L = some (.lst (ws.map V.str)) → ws.length = n → (∀ w, w ∈ ws → Word w) → ws.Nodup → Q (.ref L) H'
theorem pick_at {α : Type} {xs : List α} {r : Int} (h0 : 0 ≤ r) (h1 : r < xs.length) : ∃ v, atI xs r = some v ∧ v ∈ xs := by
  obtain ⟨j, ej⟩ : ∃ j : Nat, r = (j : Int) := ⟨r.toNat, by omega⟩
  have hj : j < xs.length := by omega
  refine ⟨xs[j], ?_, List.getElem_mem hj⟩
  subst ej
  unfold atI ixN
  rw [if_pos h0, if_pos h1]
  show xs[((j : Int)).toNat]? = _
  rw [Int.toNat_natCast, List.getElem?_eq_getElem hj]
theorem Src.away {d c p : Addr} {H : Hp} (S : Src H d c) (n : H p = none) : p ≠ d ∧ p ≠ c := by
  obtain ⟨ks, l, m, u, h1, h2⟩ := S.ex
  exact ⟨(ne_of_none h1 n).symm, (ne_of_none h2 n).symm⟩
theorem Src.put {d c L : Addr} {o : HO} {H : Hp} (S : Src H d c) (a : L ≠ d ∧ L ≠ c) : Src (upd H L o) d c := by
  obtain ⟨ks, l, m, u, h1, h2⟩ := S.ex
  exact ⟨ks, l, m, u, by rw [upd_ne a.1.symm]; exact h1, by rw [upd_ne a.2.symm]; exact h2⟩
theorem Keep.put {d c L : Addr} {o : HO} {H H1 : Hp} (a : Keep d c H H1) (n : H L = none) : Keep d c H (upd H1 L o) := fun x u e n1 n2 => by
  rw [upd_ne (ne_of_none e n)]
  exact a x u e n1 n2
theorem tails_ok : ∀ v, v ∈ [V.str "", V.str "", V.str "", V.str "k", V.str "kkkkkkkkk"] → ∃ t : Str, v = .str t ∧ tailOk t := by
  intro v h
  have a : tailOk "" := ⟨by decide +kernel, by decide +kernel⟩
  have b : tailOk "k" := ⟨by decide +kernel, by decide +kernel⟩
  have c : tailOk "kkkkkkkkk" := ⟨by decide +kernel, by decide +kernel⟩
  rcases List.mem_cons.mp h with rfl | h
  · exact ⟨_, rfl, a⟩
  rcases List.mem_cons.mp h with rfl | h
  · exact ⟨_, rfl, a⟩
  rcases List.mem_cons.mp h with rfl | h
  · exact ⟨_, rfl, a⟩
  rcases List.mem_cons.mp h with rfl | h
  · exact ⟨_, rfl, b⟩
  rcases List.mem_cons.mp h with rfl | h
  · exact ⟨_, rfl, c⟩
  cases h
theorem str_small (n : Nat) (h : n < 100) : (100 + (n : Int)).natAbs.log2 < 1920 := by
  have e : (100 + (n : Int)).natAbs = 100 + n := by omega
  rw [e]
  refine Nat.lt_of_lt_of_le ((Nat.log2_lt (by omega)).mpr (show 100 + n < 2 ^ 8 by omega)) (by decide)
theorem str_short : ∀ n : Nat, n < 100 → (Str.ofString (toString (100 + (n : Int)))).length ≤ sizeLine := fun n h => Nat.le_trans ((by decide +kernel : ∀ n : Nat, n < 100 → (Str.ofString (toString (100 + (n : Int)))).length ≤ 3) n h) (by decide)
theorem digs_len (n : Nat) (h : n < 100) : (digs (n : Int)).length = 2 := by
  show Array.size _ = 2
  rw [← Array.length_toList, digs_tab n h]
  rfl
theorem two_le {c : Nat} (n : Nat) (h : n < 100) : (⟨#[c]⟩ : Str).length + (digs (n : Int)).length ≤ sizeLine := by
  rw [digs_len n h]
  show 1 + 2 ≤ sizeLine
  decide
theorem two3 (c : Nat) (n : Nat) (h : n < 100) : ((⟨#[c]⟩ : Str) ++ digs (n : Int)).length ≤ 3 := by
  show Array.size _ ≤ 3
  rw [← Array.length_toList, app_list, List.length_append, digs_tab n h]
  exact Nat.le_refl 3
section
variable {P : Program} {w : World} {K : PySem.W.Frag} {mg : Str → Option Value} {base : Heap}
theorem scNames : FnScope ["source", "many", "shift", "names", "tails", "k", "letter"] ["source", "many"] (defScope sNames) := ⟨rfl, rfl, rfl, by decide +kernel, rfl, by decide +kernel, by decide +kernel⟩
theorem ok_names {f : Addr} {fd : FuncData} (F : Fun K "_law_names" "_law_names" sNames f fd) (mrange : mg "range" = none) (mstr : mg "str" = none) (mint : mg "int" = none) (cP : Cb P w K mg base 1 "_law_pick" spPick) : FnG P w K mg base 2 f fd ["source", "many"] spNames := by
  refine okG F scNames (fun vs H Q E h => ?_) (fun cdv A outer s H vs Q E hg hr h => ?_)
  · obtain ⟨d, c, n, rfl, _⟩ := h
    rfl
  · obtain ⟨d, c, n, rfl, S, hn, k⟩ := h
    refine ⟨_, (pss_cons (ps_par3 (i := 2) (j := 3) (l := 4) (by rfl) scNames.nd rfl rfl rfl (by decide) (by decide) (by decide) rfl rfl rfl (pa_cons (pe_k cP hg hr (by decide) (by rfl) (pa_cons (pv 0) (pa_cons pe_int pa_nil))) (pa_cons (pe_lst pa_nil) (pa_cons (pe_lst (pa_cons pe_str (pa_cons pe_str (pa_cons pe_str (pa_cons pe_str (pa_cons pe_str pa_nil)))))) pa_nil))) (by rfl))
      (pss_cons (ps_for PassesOwn.never rfl (pi_range1 (by rfl) mrange (pa_cons (pv 1) pa_nil)) (pg_name (i := 5) scNames.nd rfl (.inl rfl))
        (pss_cons (ps_set (i := 6) scNames.nd rfl (.inl rfl) (pe_ix ix_str pe_str (pe_k cP hg hr (by decide) (by rfl) (pa_cons (pv 0) (pa_cons pe_int pa_nil))) (fun _ _ => rfl)))
        (pss_one (ps_expr (pe_bm PySem.F.plainAttrs_list PySem.F.slot_list_append PySem.F.type_list_append mt_append (pv 3) (pa_cons (pe_op op_add_str (pe_op op_add_str (pv 6) (pe_slice sl_str (pe_callTy call_str_int (by rfl) mstr (by decide +kernel) (pa_cons (pe_op op_add pe_int (pe_op op_mod (pe_callTy call_int1 (by rfl) mint (by decide +kernel) (pa_cons (pe_op op_add (pv 2) (pe_op op_mul pe_int (pv 5))) pa_nil)) pe_int)) pa_nil)) (po_some pe_int) po_none)) (pe_ix ix_list (pv 4) (pe_k cP hg hr (by decide) (by rfl) (pa_cons (pv 0) (pa_cons pe_int pa_nil))) (fun _ _ => rfl))) pa_nil))))))
      (pss_one (ps_ret (pv 3))))), ?_⟩
    refine ⟨_, rfl, d, c, _, rfl, S, (by decide), fun sh H1 r0 r1 S1 k1 => ?_⟩
    refine ⟨(by show 0 ≤ sizeLine; decide), fun L nL => ?_⟩
    have aL := S1.away nL
    have S2 := S1.new (o := .lst []) nL
    refine ⟨(by show 5 ≤ sizeLine; decide), fun T nT => ?_⟩
    have aT := S2.away nT
    have S3 := S2.new (o := .lst [V.str "", V.str "", V.str "", V.str "k", V.str "kkkkkkkkk"]) nT
    have LT : L ≠ T := ne_of_none upd_same nT
    have nL0 : H L = none := by
      cases e : H L with
      | none => rfl
      | some o => rw [k1 L o e aL.1 aL.2] at nL; cases nL
    have nT0 : H T = none := by
      cases e : H T with
      | none => rfl
      | some o =>
        have z := k1 T o e aT.1 aT.2
        rw [upd_ne (Ne.symm LT), z] at nT
        cases nT
    refine ⟨_, _, _, rfl, ?_⟩
    refine ⟨_, rfl, _, rfl, (by omega), (by omega), ?_⟩
    refine for_range (lo := 0) (Pv := fun i σ H2 => ∃ (v5 v6 : Option V) (ws : List Str), σ = [some (.ref d), some (.int n), some (.int sh), some (.ref L), some (.ref T), v5, v6] ∧ Src H2 d c ∧ Keep d c H H2 ∧
      H2 L = some (.lst (ws.map V.str)) ∧ H2 T = some (.lst [V.str "", V.str "", V.str "", V.str "k", V.str "kkkkkkkkk"]) ∧ ws.length = i ∧ (∀ w, w ∈ ws → Word w) ∧ ws.map key = (List.range i).map (place sh))
      ⟨_, _, [], rfl, S3, (k1.put nL0).put nT0, ?_, upd_same, rfl, (fun _ h => nomatch h), rfl⟩ ?_ ?_
    · rw [upd_ne LT]
      exact upd_same
    · rintro i σ H2 hi ⟨v5, v6, ws, rfl, S4, k4, hL, hT, rfl, wok, keys⟩
      refine ⟨_, rfl, d, c, _, rfl, S4, (by decide), fun r H5 q0 q1 S5 k5 => ?_⟩
      obtain ⟨ch, ech, mch⟩ := pick_at (xs := LET.cps.toList) q0 (by rw [show LET.cps.toList.length = 26 by decide +kernel]; omega)
      refine ⟨LET, r, ch, rfl, rfl, (by decide +kernel), ech, ?_⟩
      have hL5 := k5 L _ hL aL.1 aL.2
      have hT5 := k5 T _ hT aT.1 aT.2
      refine ⟨_, rfl, ?_⟩
      have pl : (sh + 37 * (0 + (ws.length : Int))) % 100 = ((place sh ws.length : Nat) : Int) := by
        unfold place
        rw [Int.zero_add, Int.toNat_of_nonneg (Int.emod_nonneg _ (by decide))]
      have lt : place sh ws.length < 100 := by
        unfold place
        omega
      refine ⟨.inl ⟨rfl, _, SqL.of hL5⟩, _, rfl, _, rfl, _, rfl, _, _, rfl, rfl, .inl ⟨by decide, by decide⟩, _, _, rfl, rfl, .inl ⟨_, rfl, _, _, rfl, rfl, (by decide : (0 : Int) < 100), _, _, rfl, rfl, ?_⟩⟩
      rw [pl]
      refine ⟨_, rfl, str_small _ lt, ?_⟩
      refine ⟨_, rfl, _, rfl, str_short _ lt, _, _, rfl, rfl, ?_, ?_⟩
      · exact two_le _ lt
      refine ⟨_, rfl, _, rfl, d, c, _, rfl, S5, (by decide), fun r2 H6 q2 q3 S6 k6 => ?_⟩
      obtain ⟨tv, etv, mtv⟩ := pick_at (xs := [V.str "", V.str "", V.str "", V.str "k", V.str "kkkkkkkkk"]) q2 (by show r2 < 5; omega)
      have hL6 := k6 L _ hL5 aL.1 aL.2
      have hT6 := k6 T _ hT5 aT.1 aT.2
      refine ⟨T, _, r2, tv, rfl, rfl, SqL.of hT6, etv, ?_⟩
      obtain ⟨t, rfl, tok⟩ := tails_ok tv mtv
      obtain ⟨w1, w2⟩ := word_mk mch lt tok
      refine ⟨_, _, rfl, rfl, Nat.le_trans (Nat.add_le_add (two3 ch _ lt) tok.1) (by decide), ?_⟩
      refine ⟨L, _, _, rfl, rfl, hL6, small1000 (by rw [List.length_map]; omega), ?_⟩
      refine ⟨_, _, ws ++ [((⟨#[ch]⟩ ++ digs ((place sh ws.length : Nat) : Int)) ++ t : Str)], rfl, S6.put aL, ((k4.trans k5).trans k6).put nL0, ?_, ?_, ?_, ?_, ?_⟩
      · rw [upd_same, List.map_append]
        rfl
      · rw [upd_ne (Ne.symm LT)]
        exact hT6
      · rw [List.length_append]
        rfl
      · intro w hw
        rcases List.mem_append.mp hw with h | h
        · exact wok w h
        · cases List.mem_singleton.mp h
          exact w1
      · rw [List.map_append, keys, List.range_succ, List.map_append]
        show _ ++ [key _] = _ ++ [_]
        rw [show key _ = _ from w2]
    · rintro σ H2 ⟨v5, v6, ws, rfl, S4, k4, hL, hT, e, wok, keys⟩
      have e2 : ws.length = n := by omega
      refine ⟨_, rfl, k L ws H2 nL0 S4 k4 hL e2 wok (nodup_of (s := sh) (n := n) hn ?_)⟩
      rw [keys]
      rfl
end
end K07
namespace Rt
open PySem PySem.Spec L2
open PyProof.Rows hiding St
/-! ### the defs as the top has left them -/
structure At (K : PySem.W.Frag) (mg : Str → Option Value) (x : Str) (st : Stmt) : Prop where
  ex : ∃ (f : Addr) (fd : FuncData), Fun K x x st f fd ∧ mg x = some (.ref f)
section
variable {P : Program} {w : World} {K : PySem.W.Frag} {mg : Str → Option Value} {base h : Heap} {x : Str} {st : Stmt}
theorem at_mk {f : Addr} {oc kV dc pm cd ct : Value} {od an : Option Addr} {sl : Array (Option Value)} (X : K.In h) (G : h.Ns mainGlobals mg) (a : PySem.W.nsIn K mainGlobals x = some (some (.ref f)))
    (l : K.lookup f = some ⟨oc, od, .func (PySem.W.fnOf x x (defArgs st) (defBody st) (defScope st) .none kV dc pm an cd ct), sl⟩) (c : PySem.W.codeIn K cd x = true) (k : PySem.W.keepIn K (.ref f) = true) : At K mg x st :=
  ⟨f, _, fun_mk l c k, PySem.W.mg_of X G a⟩
theorem At.cb {k : Nat} {ps : List Str} {sp : Sp} (A : At K mg x st) (ok : ∀ (f : Addr) (fd : FuncData), Fun K x x st f fd → FnG P w K mg base k f fd ps sp)
    (bd : ∀ (f : Addr) (fd : FuncData), Fun K x x st f fd → Binds K fd ps []) : Cb P w K mg base k x sp := by
  obtain ⟨f, fd, F, m⟩ := A.ex
  exact ⟨f, fd, ps, ok f fd F, m, F.kp, bd f fd F⟩
end
end Rt
namespace Rt
open PySem PySem.Spec L2
open PyProof.Rows hiding St
/-! ### defs that may be called under any guards -/
structure Cf (P : Program) (w : World) (K : PySem.W.Frag) (mg : Str → Option Value) (base : Heap) (k : Nat) (x : Str) (sp : Sp) : Prop where
  ex : ∃ (f : Addr) (fd : FuncData) (ps : List Str), FnOk P w K mg base CX0 k f fd ps sp ∧ mg x = some (.ref f) ∧ PySem.W.keepIn K (.ref f) = true ∧ Binds K fd ps []
section
variable {P : Program} {w : World} {K : PySem.W.Frag} {mg : Str → Option Value} {base : Heap} {k : Nat} {x : Str} {sp : Sp} {st : Stmt}
theorem Cf.toB (c : Cf P w K mg base k x sp) : Cb P w K mg base k x sp := by
  obtain ⟨f, fd, ps, F, m, kp, b⟩ := c.ex
  exact ⟨f, fd, ps, ⟨F.len, fun A _ r o s H a us vs Q E => F.run A o s H a us vs Q E r⟩, m, kp, b⟩
theorem At.cf {ps : List Str} (A : At K mg x st) (ok : ∀ (f : Addr) (fd : FuncData), Fun K x x st f fd → FnOk P w K mg base CX0 k f fd ps sp)
    (bd : ∀ (f : Addr) (fd : FuncData), Fun K x x st f fd → Binds K fd ps []) : Cf P w K mg base k x sp := by
  obtain ⟨f, fd, F, m⟩ := A.ex
  exact ⟨f, fd, ps, ok f fd F, m, F.kp, bd f fd F⟩
end
section
variable {X : Cx} {k j : Nat} {x : Str} {sp : Sp} {p pos : Pos} {e : Expr} {es : List Expr} {t : TA}
theorem pe_f (c : Cf X.prog X.w X.K X.mg X.base k x sp) (hr : Room j X.A) (hk : k ≤ j) (hx : Gl X x) (ha : PA X (e :: es) t)
    (hdb : (x == ("__debug__" : Str)) = false := by decide) (he : starEach (e :: es) X.env = (false, eval e X.env) :: starEach es X.env := by rfl)
    (hpl : (backTo pos (starEach es X.env)).any (·.1) = false := by rfl) : PE X (.Call (.Name x p) (e :: es) [] pos) (tCall sp [] E0 t) := by
  obtain ⟨f, fd, ps, F, hm, kp, bd⟩ := c.ex
  exact pe_call F (hr.mono hk) hx hm kp bd .nil (fun _ _ _ _ _ _ _ z => z.elim) ha hdb he hpl
end
end Rt
namespace K07
open PySem PySem.Spec L2 Rt
open PyProof.Rows hiding St
abbrev sIsWord : Stmt := top 11
abbrev sIsInt : Stmt := top 12
abbrev sIsName : Stmt := top 21
abbrev sWip : Stmt := top 22
abbrev sWips : Stmt := top 23
abbrev sWir : Stmt := top 24
abbrev sWirs : Stmt := top 25
structure Wds (mg : Str → Option Value) : Prop where
  zisinstance : mg "isinstance" = none
  zlen : mg "len" = none
  zall : mg "all" = none
  zint : mg "int" = none
  zbool : mg "bool" = none
  zstr : mg "str" = none
  ztuple : mg "tuple" = none
  zlist : mg "list" = none
  zenumerate : mg "enumerate" = none
  let_ : ∃ t, mg "LETTERS" = some (.str LET t)
  sgn : ∃ t, mg "WORD_SIGNS" = some (.str SGN t)
  lw : ∃ t, mg "LONGEST_WORD" = some (.int 12 t)
  gs : ∃ t, mg "GREATEST_STEP" = some (.int 60 t)
/-! ### points and rules -/
abbrev Pt := Str × Int × Int
abbrev Rl := Str × Str × Int
def ptV (p : Pt) : HO := .tup [.str p.1, .int p.2.1, .int p.2.2]
def rlV (r : Rl) : HO := .tup [.str r.1, .str r.2.1, .int r.2.2]
def PtOk (p : Pt) : Prop := Word p.1 ∧ 1 ≤ p.2.2 ∧ p.2.2 ≤ 60
def Row {α : Type} (f : α → HO) (H : Hp) (as : List Addr) (ps : List α) : Prop := as.length = ps.length ∧ ∀ (i : Nat) (a : Addr) (p : α), as[i]? = some a → ps[i]? = some p → H a = some (f p)
theorem Row.same {α : Type} {f : α → HO} {H H' : Hp} {as : List Addr} {ps : List α} (r : Row f H as ps) (s : Same H H') : Row f H' as ps := ⟨r.1, fun i a p h1 h2 => s _ _ (r.2 i a p h1 h2)⟩
theorem atI_0 {α : Type} {a : α} {xs : List α} : atI (a :: xs) 0 = some a := by
  unfold atI ixN
  rw [if_pos (Int.le_refl 0), if_pos (by simp)]
  rfl
def spInt1 : Sp := fun vs H Q _ => ∃ i : Int, vs = [.int i] ∧ Q (.bl true) H
def spWord1 : Sp := fun vs H Q _ => ∃ x : Str, vs = [.str x] ∧ Word x ∧ ∀ H', Same H H' → Q (.bl true) H'
def spIsName : Sp := fun vs H Q _ => ∃ (x : Str) (d : Addr) (kvs : List (Key × V)), vs = [.str x, .ref d] ∧ H d = some (.dK kvs) ∧ Q (.bl (valV kvs (Sum.inr x)).isSome) H
def spWip : Sp := fun vs H Q _ => ∃ (a e : Addr) (p : Pt) (kvs : List (Key × V)), vs = [.ref a, .ref e] ∧ H a = some (ptV p) ∧ PtOk p ∧ H e = some (.dK kvs) ∧ valV kvs (Sum.inr p.1) = none ∧ ∀ H', Same H H' → Q .non H'
def spWir : Sp := fun vs H Q _ => ∃ (a e : Addr) (r : Rl) (kvs : List (Key × V)), vs = [.ref a, .ref e] ∧ H a = some (rlV r) ∧ H e = some (.dK kvs) ∧ (valV kvs (Sum.inr r.1)).isSome = true ∧ (valV kvs (Sum.inr r.2.1)).isSome = true ∧ ∀ H', Same H H' → Q .non H'
section
variable {P : Program} {w : World} {K : PySem.W.Frag} {mg : Str → Option Value} {base : Heap}
theorem scIsInt : FnScope ["value"] ["value"] (defScope sIsInt) := ⟨rfl, rfl, rfl, by decide +kernel, rfl, by decide +kernel, by decide +kernel⟩
theorem ok_isInt {f : Addr} {fd : FuncData} (F : Fun K "is_integer" "is_integer" sIsInt f fd) (T : Wds mg) : FnOk P w K mg base CX0 1 f fd ["value"] spInt1 := by
  refine F.ok scIsInt (fun vs H Q E h => ?_) (fun cdv A outer s H vs Q E hr h => ?_)
  · obtain ⟨v, rfl, _⟩ := h
    rfl
  · obtain ⟨v, rfl, k⟩ := h
    refine ⟨_, (pss_one (ps_ret (pe_and (pe_callB call_isi (by rfl) T.zisinstance (by decide +kernel) (pa_cons (pv 0) (pa_cons (pe_bltn (v := .ty "int") (by rfl) T.zint (by decide +kernel) rfl) pa_nil))) (pe_one (pe_not (pe_callB call_isi (by rfl) T.zisinstance (by decide +kernel) (pa_cons (pv 0) (pa_cons (pe_bltn (v := .ty "bool") (by rfl) T.zbool (by decide +kernel) rfl) pa_nil)))))))), ?_⟩
    refine ⟨_, rfl, _, .ty "int", _, .type "int", true, rfl, .ty _, .base (.int _), kit_ty (by decide +kernel), true, rfl, iteT ?_⟩
    exact ⟨_, rfl, _, .ty "bool", _, .type "bool", false, rfl, .ty _, .base (.int _), kit_ty (by decide +kernel), false, rfl, k⟩
theorem scIsWord : FnScope ["value", "sign"] ["value"] (defScope sIsWord) := ⟨rfl, rfl, rfl, by decide +kernel, rfl, by decide +kernel, by decide +kernel⟩
theorem ok_isWord {f : Addr} {fd : FuncData} (F : Fun K "is_word" "is_word" sIsWord f fd) (T : Wds mg) : FnOk P w K mg base CX0 1 f fd ["value"] spWord1 := by
  refine F.ok scIsWord (fun vs H Q E h => ?_) (fun cdv A outer s H vs Q E hr h => ?_)
  · obtain ⟨v, rfl, _⟩ := h
    rfl
  · obtain ⟨x, rfl, ok, k⟩ := h
    obtain ⟨t1, hLET⟩ := T.let_
    obtain ⟨t2, hSGN⟩ := T.sgn
    obtain ⟨t3, hLW⟩ := T.lw
    refine ⟨_, (pss_cons (ps_if (PW.pt (pw_or (pt_not (pt_val (pe_callB call_isi (by rfl) T.zisinstance (by decide +kernel) (pa_cons (pv 0) (pa_cons (pe_bltn (v := .ty "str") (by rfl) T.zstr (by decide +kernel) rfl) pa_nil))))) (pw_or1 (pt_not (pt_chain op_le op_le pe_int (pe_callB call_len_str (by rfl) T.zlen (by decide +kernel) (pa_cons (pv 0) pa_nil)) (pe_glob (v := .int 12) (by rfl) hLW ⟨_, rfl⟩)))))) (pss_one (ps_ret pe_bl)) pss_nil)
      (pss_one (ps_ret (pe_and (pe_cmpR op_inS (pe_ix ix_str (pv 0) pe_int (fun _ _ => rfl)) (pe_glob (v := .str LET) (by rfl) hLET ⟨_, rfl⟩) rfl) (pe_one (pe_callB (cr_all (by rfl)) (by rfl) T.zall (by decide +kernel) (pa_cons (pe_lc (own := [("sign", 1)]) (by rfl) scIsWord.nd (pi_str (pv 0)) (blkOk_by (N := ["value", "sign"]) (sc := defScope sIsWord) (by decide +kernel)) (fun _ _ _ _ _ => (pg_name (i := 1) scIsWord.nd rfl (.inl rfl))) (fun _ _ _ _ _ => pts_nil) (fun _ _ _ _ _ => (pe_cmpR op_inS (pv 1) (pe_glob (v := .str SGN) (by rfl) hSGN ⟨_, rfl⟩) rfl))) pa_nil))))))), ?_⟩
    obtain ⟨c, r, e, hc⟩ := ok.hd
    have l1 : x.length = r.length + 1 := by
      show x.cps.size = _
      rw [← Array.length_toList, e]
      rfl
    have l12 := ok.le
    refine ⟨_, rfl, _, .ty "str", _, .type "str", true, rfl, .ty _, .base (.str _), kit_ty (by decide +kernel), true, rfl, iteF ?_⟩
    refine ⟨_, rfl, _, rfl, Nat.le_trans l12 (by decide), _, _, rfl, rfl, _, rfl, ?_⟩
    rw [decide_eq_true (show (1 : Int) ≤ (x.length : Int) by omega)]
    refine iteT ⟨_, _, rfl, rfl, _, rfl, ?_⟩
    rw [decide_eq_true (show (x.length : Int) ≤ 12 by omega)]
    refine iteF ?_
    refine ⟨_, rfl, x, 0, c, rfl, rfl, Nat.le_trans l12 (by decide), by rw [e]; exact atI_0, c, LET, rfl, rfl, true, by rw [decide_eq_true hc], iteT ?_⟩
    refine ⟨_, rfl, x, rfl, fun D nD => ?_⟩
    refine lc_it walk_str (fun i H' => Same H H' ∧ H' D = some (.lst ((List.replicate i true).map V.bl))) ⟨same_new nD, upd_same⟩ (fun _ _ _ _ => True.intro) ?_ ?_
    · rintro i y H1 H2 hi ⟨s1, h1⟩ ⟨rfl, z, hz, rfl⟩
      have mz : z ∈ SGN.cps.toList := ok.sg z (by
        have q := List.mem_of_getElem? (l := x.cps.toList) (i := i) (a := z) (by rw [Array.getElem?_toList]; exact hz)
        exact q)
      refine ⟨rfl, _, rfl, z, SGN, rfl, rfl, ?_⟩
      rw [decide_eq_true mz]
      refine ⟨_, h1, small1000 (by rw [List.length_map, List.length_replicate]; have : x.cps.size ≤ 12 := l12; omega), fun b o q => by rw [upd_ne (ne_of_none q nD)]; exact s1 b o q, ?_⟩
      rw [upd_same, List.replicate_succ', List.map_append]
      rfl
    · rintro H1 ⟨s1, h1⟩
      refine ⟨D, _, rfl, SqL.of h1, ?_⟩
      rw [show (List.replicate x.cps.size true).all id = true by simp]
      exact k H1 s1
end
end K07
namespace K07
open PySem PySem.Spec L2 Rt
open PyProof.Rows hiding St
theorem get_k {H : Hp} {d : Addr} {kvs : List (Key × V)} {x : Str} (h : H d = some (.dK kvs)) : DGet H d (.str x) (valV kvs (Sum.inr x)) := DGet.k (k := Sum.inr x) h
section
variable {P : Program} {w : World} {K : PySem.W.Frag} {mg : Str → Option Value} {base : Heap}
theorem scIsName : FnScope ["value", "names"] ["value", "names"] (defScope sIsName) := ⟨rfl, rfl, rfl, by decide +kernel, rfl, by decide +kernel, by decide +kernel⟩
theorem ok_isName {f : Addr} {fd : FuncData} (F : Fun K "is_name_of" "is_name_of" sIsName f fd) (T : Wds mg) : FnOk P w K mg base CX0 1 f fd ["value", "names"] spIsName := by
  refine F.ok scIsName (fun vs H Q E h => ?_) (fun cdv A outer s H vs Q E hr h => ?_)
  · obtain ⟨x, d, kvs, rfl, _⟩ := h
    rfl
  · obtain ⟨x, d, kvs, rfl, hd, k⟩ := h
    have hu := hu_of hr
    refine ⟨_, (pss_one (ps_ret (pe_and (pe_callB call_isi (by rfl) T.zisinstance (by decide +kernel) (pa_cons (pv 0) (pa_cons (pe_bltn (v := .ty "str") (by rfl) T.zstr (by decide +kernel) rfl) pa_nil))) (pe_one (pe_cmp (pc_din hu (pv 0) (pv 1))))))), ?_⟩
    exact ⟨_, rfl, _, .ty "str", _, .type "str", true, rfl, .ty _, .base (.str _), kit_ty (by decide +kernel), true, rfl, iteT ⟨_, rfl, _, rfl, d, _, rfl, get_k hd, k⟩⟩
theorem scWip : FnScope ["point", "earlier", "name", "first", "step"] ["point", "earlier"] (defScope sWip) := ⟨rfl, rfl, rfl, by decide +kernel, rfl, by decide +kernel, by decide +kernel⟩
theorem ok_wip {f : Addr} {fd : FuncData} (F : Fun K "wrong_in_point" "wrong_in_point" sWip f fd) (T : Wds mg) (isWord : Cf P w K mg base 1 "is_word" spWord1) (isInt : Cf P w K mg base 1 "is_integer" spInt1) : FnOk P w K mg base CX0 2 f fd ["point", "earlier"] spWip := by
  refine F.ok scWip (fun vs H Q E h => ?_) (fun cdv A outer s H vs Q E hr h => ?_)
  · obtain ⟨a, e, p, kvs, rfl, _⟩ := h
    rfl
  · obtain ⟨a, e, p, kvs, rfl, ha, ⟨ok, p1, p2⟩, he, no, k⟩ := h
    obtain ⟨t4, hGS⟩ := T.gs
    have hu := hu_of hr
    have ha : H a = some (.tup [.str p.1, .int p.2.1, .int p.2.2]) := ha
    refine ⟨_, (pss_cons (ps_if (PW.pt (pw_or (pt_not (pt_val (pe_callB call_isi (by rfl) T.zisinstance (by decide +kernel) (pa_cons (pv 0) (pa_cons (pe_bltn (v := .ty "tuple") (by rfl) T.ztuple (by decide +kernel) rfl) pa_nil))))) (pw_or1 (pt_cmpR op_ne (pe_callB call_len_seq (by rfl) T.zlen (by decide +kernel) (pa_cons (pv 0) pa_nil)) pe_int (nomark _))))) (pss_one (ps_ret (pe_tup pa_nil))) pss_nil)
      (pss_cons (ps_asg (pv 0) (pg_tup (by rfl) (pgs_cons (pg_name (i := 2) scWip.nd rfl (.inl rfl)) (pgs_cons (pg_name (i := 3) scWip.nd rfl (.inl rfl)) (pgs_cons (pg_name (i := 4) scWip.nd rfl (.inl rfl)) pgs_nil)))))
      (pss_cons (ps_if (PW.pt (pw_or (pt_not (pt_val (pe_f isWord hr (by decide) (by rfl) (pa_cons (pv 2) pa_nil)))) (pw_or1 (pt_cmp (pc_din hu (pv 2) (pv 1)))))) (pss_one (ps_ret (pe_tup (pa_cons pe_int pa_nil)))) pss_nil)
      (pss_cons (ps_if (pt_not (pt_val (pe_f isInt hr (by decide) (by rfl) (pa_cons (pv 3) pa_nil)))) (pss_one (ps_ret (pe_tup (pa_cons pe_int pa_nil)))) pss_nil)
      (pss_cons (ps_if (PW.pt (pw_or (pt_not (pt_val (pe_f isInt hr (by decide) (by rfl) (pa_cons (pv 4) pa_nil)))) (pw_or1 (pt_not (pt_chain op_le op_le pe_int (pv 4) (pe_glob (v := .int 60) (by rfl) hGS ⟨_, rfl⟩)))))) (pss_one (ps_ret (pe_tup (pa_cons pe_int pa_nil)))) pss_nil)
      (pss_one (ps_ret pe_non))))))), ?_⟩
    refine ⟨_, rfl, _, .ty "tuple", _, .type "tuple", true, rfl, .ty _, .base (.tup ha), kit_ty (by decide +kernel), true, rfl, iteF ?_⟩
    refine ⟨_, rfl, a, _, rfl, .inr (SqT.of ha), rfl, false, rfl, iteF ?_⟩
    refine ⟨_, rfl, a, _, rfl, SqT.of ha, rfl, _, _, rfl, _, _, rfl, _, _, rfl, rfl, ?_⟩
    refine ⟨_, rfl, p.1, rfl, ok, fun H1 s1 => ⟨true, rfl, iteF ?_⟩⟩
    refine ⟨_, rfl, _, rfl, e, _, rfl, get_k (s1 _ _ he), _, rfl, ?_⟩
    rw [no]
    refine iteF ?_
    refine ⟨_, rfl, _, rfl, true, rfl, iteF ?_⟩
    refine ⟨_, rfl, _, rfl, true, rfl, iteF ?_⟩
    refine ⟨_, rfl, _, _, rfl, rfl, _, rfl, ?_⟩
    rw [decide_eq_true p1]
    refine iteT ⟨_, _, rfl, rfl, _, rfl, ?_⟩
    rw [decide_eq_true p2]
    refine iteF ?_
    exact k H1 s1
theorem scWir : FnScope ["rule", "names", "start", "end", "least"] ["rule", "names"] (defScope sWir) := ⟨rfl, rfl, rfl, by decide +kernel, rfl, by decide +kernel, by decide +kernel⟩
theorem ok_wir {f : Addr} {fd : FuncData} (F : Fun K "wrong_in_rule" "wrong_in_rule" sWir f fd) (T : Wds mg) (isName : Cf P w K mg base 1 "is_name_of" spIsName) (isInt : Cf P w K mg base 1 "is_integer" spInt1) : FnOk P w K mg base CX0 2 f fd ["rule", "names"] spWir := by
  refine F.ok scWir (fun vs H Q E h => ?_) (fun cdv A outer s H vs Q E hr h => ?_)
  · obtain ⟨a, e, r, kvs, rfl, _⟩ := h
    rfl
  · obtain ⟨a, e, r, kvs, rfl, ha, he, i1, i2, k⟩ := h
    have ha : H a = some (.tup [.str r.1, .str r.2.1, .int r.2.2]) := ha
    refine ⟨_, (pss_cons (ps_if (PW.pt (pw_or (pt_not (pt_val (pe_callB call_isi (by rfl) T.zisinstance (by decide +kernel) (pa_cons (pv 0) (pa_cons (pe_bltn (v := .ty "tuple") (by rfl) T.ztuple (by decide +kernel) rfl) pa_nil))))) (pw_or1 (pt_cmpR op_ne (pe_callB call_len_seq (by rfl) T.zlen (by decide +kernel) (pa_cons (pv 0) pa_nil)) pe_int (nomark _))))) (pss_one (ps_ret (pe_tup pa_nil))) pss_nil)
      (pss_cons (ps_asg (pv 0) (pg_tup (by rfl) (pgs_cons (pg_name (i := 2) scWir.nd rfl (.inl rfl)) (pgs_cons (pg_name (i := 3) scWir.nd rfl (.inl rfl)) (pgs_cons (pg_name (i := 4) scWir.nd rfl (.inl rfl)) pgs_nil)))))
      (pss_cons (ps_if (pt_not (pt_val (pe_f isName hr (by decide) (by rfl) (pa_cons (pv 2) (pa_cons (pv 1) pa_nil))))) (pss_one (ps_ret (pe_tup (pa_cons pe_int pa_nil)))) pss_nil)
      (pss_cons (ps_if (pt_not (pt_val (pe_f isName hr (by decide) (by rfl) (pa_cons (pv 3) (pa_cons (pv 1) pa_nil))))) (pss_one (ps_ret (pe_tup (pa_cons pe_int pa_nil)))) pss_nil)
      (pss_cons (ps_if (pt_not (pt_val (pe_f isInt hr (by decide) (by rfl) (pa_cons (pv 4) pa_nil)))) (pss_one (ps_ret (pe_tup (pa_cons pe_int pa_nil)))) pss_nil)
      (pss_one (ps_ret pe_non))))))), ?_⟩
    refine ⟨_, rfl, _, .ty "tuple", _, .type "tuple", true, rfl, .ty _, .base (.tup ha), kit_ty (by decide +kernel), true, rfl, iteF ?_⟩
    refine ⟨_, rfl, a, _, rfl, .inr (SqT.of ha), rfl, false, rfl, iteF ?_⟩
    refine ⟨_, rfl, a, _, rfl, SqT.of ha, rfl, _, _, rfl, _, _, rfl, _, _, rfl, rfl, ?_⟩
    refine ⟨_, rfl, _, rfl, _, e, kvs, rfl, he, true, by rw [i1], iteF ?_⟩
    refine ⟨_, rfl, _, rfl, _, e, kvs, rfl, he, true, by rw [i2], iteF ?_⟩
    refine ⟨_, rfl, _, rfl, true, rfl, iteF ?_⟩
    exact k H (Same.refl H)
/-- the names in order, each with its place -/
def placesK (ns : List Str) : List (Key × V) := (ns.zipIdx).map fun x => (Sum.inr x.1, V.int x.2)
def spWips : Sp := fun vs H Q _ => ∃ (p : Addr) (as : List Addr) (ps : List Pt), vs = [.ref p] ∧ H p = some (.lst (as.map V.ref)) ∧ Row ptV H as ps ∧ (∀ x, x ∈ ps → PtOk x) ∧ (ps.map (·.1)).Nodup ∧ ps.length ≤ 100 ∧ ∀ H', Same H H' → Q .non H'
def spWirs : Sp := fun vs H Q _ => ∃ (p e : Addr) (as : List Addr) (rs : List Rl) (kvs : List (Key × V)), vs = [.ref p, .ref e] ∧ H p = some (.lst (as.map V.ref)) ∧ Row rlV H as rs ∧ H e = some (.dK kvs) ∧
  (∀ r, r ∈ rs → (valV kvs (Sum.inr r.1)).isSome = true ∧ (valV kvs (Sum.inr r.2.1)).isSome = true) ∧ ∀ H', Same H H' → Q .non H'
theorem kitLT {K : PySem.W.Frag} {t : Value} (h : t = .type "list" ∨ t = .type "tuple") : PySem.W.kitAny K t [.type "list", .type "tuple"] = some true := by
  rcases h with rfl | rfl
  · exact kitAny_cons (b := true) (kit_ty (by decide +kernel)) (fun z => nomatch z) (fun _ => rfl)
  · exact kitAny_cons (b := false) (kit_ty (by decide +kernel)) (fun _ => kitAny_cons (b := true) (kit_ty (by decide +kernel)) (fun z => nomatch z) (fun _ => rfl)) (fun z => nomatch z)
theorem nodup_at {ps : List Pt} {i : Nat} (nd : (ps.map (·.1)).Nodup) (h : i < ps.length) : ps[i].1 ∉ (ps.take i).map (·.1) := by
  intro m
  obtain ⟨j, hj, e⟩ := List.getElem_of_mem m
  rw [List.length_map, List.length_take] at hj
  rw [List.getElem_map, List.getElem_take] at e
  have q := List.pairwise_iff_getElem.mp nd j i (by rw [List.length_map]; omega) (by rw [List.length_map]; exact h) (by omega)
  rw [List.getElem_map, List.getElem_map] at q
  exact q e
theorem scWips : FnScope ["points", "earlier", "k", "point", "wrong"] ["points"] (defScope sWips) := ⟨rfl, rfl, rfl, by decide +kernel, rfl, by decide +kernel, by decide +kernel⟩
theorem ok_wips {f : Addr} {fd : FuncData} (F : Fun K "wrong_in_points" "wrong_in_points" sWips f fd) (T : Wds mg) (wip : Cf P w K mg base 2 "wrong_in_point" spWip) : FnOk P w K mg base CX0 3 f fd ["points"] spWips := by
  refine F.ok scWips (fun vs H Q E h => ?_) (fun cdv A outer s H vs Q E hr h => ?_)
  · obtain ⟨p, as, ps, rfl, _⟩ := h
    rfl
  · obtain ⟨p, as, ps, rfl, hp, row, oks, nod, few, k⟩ := h
    have hu := hu_of hr
    refine ⟨_, (pss_cons (ps_if (pt_not (pt_val (pe_callB call_isiT (by rfl) T.zisinstance (by decide +kernel) (pa_cons (pv 0) (pa_cons (pe_tup (pa_cons (pe_bltn (v := .ty "list") (by rfl) T.zlist (by decide +kernel) rfl) (pa_cons (pe_bltn (v := .ty "tuple") (by rfl) T.ztuple (by decide +kernel) rfl) pa_nil))) pa_nil))))) (pss_one (ps_ret (pe_tup (pa_cons pe_int pa_nil)))) pss_nil)
      (pss_cons (ps_set (i := 1) scWips.nd rfl (.inl rfl) pe_dnewK)
      (pss_cons (ps_for PassesOwn.never rfl (pi_enum (by rfl) T.zenumerate (pa_cons (pv 0) pa_nil)) (pg_tup (by rfl) (pgs_cons (pg_name (i := 2) scWips.nd rfl (.inl rfl)) (pgs_cons (pg_name (i := 3) scWips.nd rfl (.inl rfl)) pgs_nil)))
        (pss_cons (ps_set (i := 4) scWips.nd rfl (.inl rfl) (pe_f wip hr (by decide) (by rfl) (pa_cons (pv 3) (pa_cons (pv 1) pa_nil))))
        (pss_cons (ps_if (pt_cmpR op_notN (pv 4) pe_non (nomark _)) (pss_one (ps_ret (pe_op op_add (pe_tup (pa_cons pe_int (pa_cons (pv 2) pa_nil))) (pv 4)))) pss_nil)
        (pss_one (ps_dput hu (pv 1) (pe_ix ix_tup (pv 3) pe_int (fun _ _ => rfl)) pe_bl rfl)))))
      (pss_one (ps_ret pe_non))))), ?_⟩
    refine ⟨_, rfl, (by show 2 ≤ sizeLine; decide), fun tp nt => ?_⟩
    have s1 := same_new (o := .tup [.ty "list", .ty "tuple"]) nt
    refine ⟨_, tp, _, .type "list", _, true, rfl, upd_same, .cons (.ty _) (.cons (.ty _) .nil), .base (.lst (s1 _ _ hp)), kitLT (.inl rfl), true, rfl, iteF ?_⟩
    intro d nd
    have s2 := s1.trans (same_new (o := .dK []) nd)
    refine ⟨_, rfl, p, _, rfl, SqL.of (s2 _ _ hp), ?_⟩
    refine for_it walk_enum (fun i σ H2 => ∃ (v2 v3 v4 : Option V) (kvs : List (Key × V)), σ = [some (.ref p), some (.ref d), v2, v3, v4] ∧ Same H H2 ∧ H2 d = some (.dK kvs) ∧ kvs.length ≤ i ∧ ∀ x, valV kvs (Sum.inr x) ≠ none → x ∈ (ps.take i).map (·.1))
      ⟨_, _, _, [], rfl, s2, upd_same, Nat.le_refl _, fun x z => absurd rfl z⟩ (fun i σ H2 _ ⟨_, _, _, _, _, s3, _⟩ => SqL.of (s3 _ _ hp)) ?_ ?_
    · rintro i y σ H2 H3 hi ⟨v2, v3, v4, kvs, rfl, s3, hd, le, inn⟩ ⟨t, x1, x2, rfl, ht, rfl, h1, h2⟩
      obtain rfl : V.int (i : Nat) = x1 := Option.some.inj h1
      have hi' : i < as.length := by rw [List.length_map] at hi; exact hi
      have hip : i < ps.length := by rw [← row.1]; exact hi'
      obtain rfl : V.ref as[i] = x2 := by
        have h2 : (as.map V.ref)[i]? = some x2 := h2
        rw [List.getElem?_map, List.getElem?_eq_getElem hi'] at h2
        exact Option.some.inj h2
      have pa : H as[i] = some (ptV ps[i]) := row.2 i _ _ (List.getElem?_eq_getElem hi') (List.getElem?_eq_getElem hip)
      have s4 : Same H (upd H2 t (.tup [.int (i : Nat), .ref as[i]])) := s3.trans (same_new ht)
      have hd4 : (upd H2 t (.tup [.int (i : Nat), .ref as[i]])) d = some (.dK kvs) := by
        rw [upd_ne (ne_of_none hd ht)]
        exact hd
      refine ⟨t, _, rfl, SqT.of upd_same, rfl, _, _, rfl, _, _, rfl, rfl, ?_⟩
      have no : valV kvs (Sum.inr ps[i].1) = none := by
        cases e : valV kvs (Sum.inr ps[i].1) with
        | none => rfl
        | some z => exact absurd (inn ps[i].1 (by rw [e]; simp)) (nodup_at nod hip)
      refine ⟨_, rfl, _, rfl, as[i], d, ps[i], kvs, rfl, s4 _ _ pa, oks _ (List.getElem_mem hip), hd4, no, fun H5 s5 => ?_⟩
      refine ⟨_, rfl, rfl, false, rfl, iteF ?_⟩
      have pa5 : H5 as[i] = some (.tup [.str ps[i].1, .int ps[i].2.1, .int ps[i].2.2]) := s5 _ _ (s4 _ _ pa)
      have nd0 : H d = none := s1.free nd
      refine ⟨_, rfl, _, rfl, as[i], _, 0, _, rfl, rfl, SqT.of pa5, rfl, d, _, rfl, DPut.k (k := Sum.inr ps[i].1) (s5 _ _ hd4) (small1000 (by omega)), ?_⟩
      refine ⟨_, _, _, _, rfl, fun b o q => by rw [upd_ne (ne_of_none q nd0)]; exact (s4.trans s5) b o q, upd_same, Nat.le_trans (length_putK _ _ _) (Nat.succ_le_succ le), fun x hx => ?_⟩
      rw [valV_put] at hx
      rw [List.take_succ, List.getElem?_eq_getElem hip, List.map_append]
      by_cases e : (Sum.inr x : Key) = Sum.inr ps[i].1
      · rw [Sum.inr.inj e]
        exact List.mem_append.mpr (.inr (by simp))
      · rw [if_neg e] at hx
        exact List.mem_append.mpr (.inl (inn x hx))
    · rintro σ H2 ⟨v2, v3, v4, kvs, rfl, s3, hd, le, inn⟩
      exact k H2 s3
theorem scWirs : FnScope ["rules", "names", "k", "rule", "wrong"] ["rules", "names"] (defScope sWirs) := ⟨rfl, rfl, rfl, by decide +kernel, rfl, by decide +kernel, by decide +kernel⟩
theorem ok_wirs {f : Addr} {fd : FuncData} (F : Fun K "wrong_in_rules" "wrong_in_rules" sWirs f fd) (T : Wds mg) (wir : Cf P w K mg base 2 "wrong_in_rule" spWir) : FnOk P w K mg base CX0 3 f fd ["rules", "names"] spWirs := by
  refine F.ok scWirs (fun vs H Q E h => ?_) (fun cdv A outer s H vs Q E hr h => ?_)
  · obtain ⟨p, e, as, rs, kvs, rfl, _⟩ := h
    rfl
  · obtain ⟨p, e, as, rs, kvs, rfl, hp, row, he, oks, k⟩ := h
    refine ⟨_, (pss_cons (ps_if (pt_not (pt_val (pe_callB call_isiT (by rfl) T.zisinstance (by decide +kernel) (pa_cons (pv 0) (pa_cons (pe_tup (pa_cons (pe_bltn (v := .ty "list") (by rfl) T.zlist (by decide +kernel) rfl) (pa_cons (pe_bltn (v := .ty "tuple") (by rfl) T.ztuple (by decide +kernel) rfl) pa_nil))) pa_nil))))) (pss_one (ps_ret (pe_tup (pa_cons pe_int pa_nil)))) pss_nil)
      (pss_cons (ps_for PassesOwn.never rfl (pi_enum (by rfl) T.zenumerate (pa_cons (pv 0) pa_nil)) (pg_tup (by rfl) (pgs_cons (pg_name (i := 2) scWirs.nd rfl (.inl rfl)) (pgs_cons (pg_name (i := 3) scWirs.nd rfl (.inl rfl)) pgs_nil)))
        (pss_cons (ps_set (i := 4) scWirs.nd rfl (.inl rfl) (pe_f wir hr (by decide) (by rfl) (pa_cons (pv 3) (pa_cons (pv 1) pa_nil))))
        (pss_one (ps_if (pt_cmpR op_notN (pv 4) pe_non (nomark _)) (pss_one (ps_ret (pe_op op_add (pe_tup (pa_cons pe_int (pa_cons (pv 2) pa_nil))) (pv 4)))) pss_nil))))
      (pss_one (ps_ret pe_non)))), ?_⟩
    refine ⟨_, rfl, (by show 2 ≤ sizeLine; decide), fun tp nt => ?_⟩
    have s1 := same_new (o := .tup [.ty "list", .ty "tuple"]) nt
    refine ⟨_, tp, _, .type "list", _, true, rfl, upd_same, .cons (.ty _) (.cons (.ty _) .nil), .base (.lst (s1 _ _ hp)), kitLT (.inl rfl), true, rfl, iteF ?_⟩
    refine ⟨_, rfl, p, _, rfl, SqL.of (s1 _ _ hp), ?_⟩
    refine for_it walk_enum (fun i σ H2 => ∃ (v2 v3 v4 : Option V), σ = [some (.ref p), some (.ref e), v2, v3, v4] ∧ Same H H2)
      ⟨_, _, _, rfl, s1⟩ (fun i σ H2 _ ⟨_, _, _, _, s3⟩ => SqL.of (s3 _ _ hp)) ?_ ?_
    · rintro i y σ H2 H3 hi ⟨v2, v3, v4, rfl, s3⟩ ⟨t, x1, x2, rfl, ht, rfl, h1, h2⟩
      obtain rfl : V.int (i : Nat) = x1 := Option.some.inj h1
      have hi' : i < as.length := by rw [List.length_map] at hi; exact hi
      have hip : i < rs.length := by rw [← row.1]; exact hi'
      obtain rfl : V.ref as[i] = x2 := by
        have h2 : (as.map V.ref)[i]? = some x2 := h2
        rw [List.getElem?_map, List.getElem?_eq_getElem hi'] at h2
        exact Option.some.inj h2
      have pa : H as[i] = some (rlV rs[i]) := row.2 i _ _ (List.getElem?_eq_getElem hi') (List.getElem?_eq_getElem hip)
      have s4 : Same H (upd H2 t (.tup [.int (i : Nat), .ref as[i]])) := s3.trans (same_new ht)
      obtain ⟨i1, i2⟩ := oks _ (List.getElem_mem hip)
      refine ⟨t, _, rfl, SqT.of upd_same, rfl, _, _, rfl, _, _, rfl, rfl, ?_⟩
      refine ⟨_, rfl, _, rfl, as[i], e, rs[i], kvs, rfl, s4 _ _ pa, s4 _ _ he, i1, i2, fun H5 s5 => ?_⟩
      exact ⟨_, rfl, rfl, false, rfl, iteF ⟨_, _, _, rfl, s4.trans s5⟩⟩
    · rintro σ H2 ⟨v2, v3, v4, rfl, s3⟩
      exact k H2 s3

end
end K07
namespace Rt
open PySem PySem.Spec L2
open PyProof.Rows hiding St
/-! ### a dict comprehension over any walk -/
section
variable {J : It} {n : Nat} {G : Hp → Prop} {Y : Nat → Hp → V → Hp → Prop}
theorem dc_it (wk : Walk J n G Y) {g : TG} {tt : TT} {tk tv : TE} {vs : List Nat} {σ : L2.St} {H1 : Hp} {D : Addr} {Qd : Hp → Prop} (Pv : Nat → Hp → Prop) (start : Pv 0 (upd H1 D (.dK []))) (good : ∀ i H, i ≤ n → Pv i H → G H)
    (turn : ∀ i x H H', i < n → Pv i H → Y i H x H' → g x (wipe σ vs) H' fun σ2 H2 => wipe σ2 vs = wipe σ vs ∧ tt σ2 H2 fun b H3 =>
      if b = true then tk σ2 H3 fun y H4 => tv σ2 H4 fun z H5 => ∃ kvs k, y = kV k ∧ H5 D = some (.dK kvs) ∧ kvs.length < sizeLine ∧ Pv (i + 1) (upd H5 D (.dK (putK kvs k z))) else Pv (i + 1) H3) (fin : ∀ H, Pv n H → Qd H) :
    ∃ W : Nat → Nat → Hp → Prop, (∃ m, W 0 m (upd H1 D (.dK []))) ∧ ∀ i m H, W i m H →
      (J.stop i H ∧ Qd H) ∨ (J.go i H ∧ ∃ Nx : Hp → Prop, (∀ H', Nx H' → ∃ m', m' < m ∧ W (i + 1) m' H') ∧ ∀ x H', J.yld i H x H' → g x (wipe σ vs) H' fun σ2 H2 => wipe σ2 vs = wipe σ vs ∧ tt σ2 H2 fun b H3 =>
        if b = true then tk σ2 H3 fun y H4 => tv σ2 H4 fun z H5 => ∃ kvs k, y = kV k ∧ H5 D = some (.dK kvs) ∧ kvs.length < sizeLine ∧ Nx (upd H5 D (.dK (putK kvs k z))) else Nx H3) := by
  refine ⟨fun i m H => m + i = n ∧ Pv i H, ⟨n, rfl, start⟩, fun i m H ⟨e, p⟩ => ?_⟩
  have q := good i H (by omega) p
  rcases Nat.lt_or_ge i n with lt | ge
  · exact .inr ⟨wk.goes i H lt q, Pv (i + 1), fun H' p' => ⟨m - 1, by omega, by omega, p'⟩, fun x H' y => turn i x H H' lt p (wk.yields i H x H' lt q y)⟩
  · obtain rfl : i = n := by omega
    exact .inl ⟨wk.stops H q, fin H p⟩
end
/-! ### a tuple as a target within a comprehension -/
theorem pg_tk {X : Cx} {K : PySem.W.Frag} {es : List Expr} {k n : Nat} {t : TGs} {pos : Pos} (hK : X.K = K) (hc : X.calm = true) (h : PGs X es t) (hn : (assignEach es X.env).length = n) (hst : (assignEach es X.env).findIdx? (·.1) = none) : PG X (.Tuple es k pos) (gTup K n t) := by
  subst hK
  exact pg_tup hc h hn hst
/-! ### tuple(..) within a comprehension -/
def rTup (K : PySem.W.Frag) : List V → Hp → VK → Prop := fun vs H Q =>
  ∃ (b : Addr) (us : List V), vs = [.ref b] ∧ ((SqL K H b us ∧ ∀ n, H n = none → Q (.ref n) (upd H n (.tup us))) ∨ (SqT K H b us ∧ Q (.ref b) H))
theorem call_tupK {X : Cx} {K : PySem.W.Frag} (hK : X.K = K) : CallR X (.type "tuple") (rTup K) := by
  subst hK
  exact call_tuple_of
/-! ### name = {..: .. for ..} on one line -/
theorem sw_dict {a b : Expr} {gs : List Comprehension} {sc : Scope} {q qn : Pos} {n : Str} {line : Nat} {env : Env} (kind : env.scope.kind = .function) (loc : env.scope.names.lookup n = some .local) (same : (qn.line == q.line) = true)
    (other : (sc.names.any fun (m, k) => m == n && (k == .local || k == .cell)) = false) : swapsWith (.DictComp a b gs sc q) (some (.Name n qn)) line env = pure true := by
  have e1 : env.kindOf n = some .local := loc
  have e2 : env.blockKind = .function := by
    show env.blockKind = _
    unfold Env.blockKind
    rw [kind]
    rfl
  simp only [swapsWith, e1, e2, other, Expr.pos, same]
  rfl
theorem ps_setDc {X : Cx} {i : Nat} {n : Str} {qn q qs : Pos} {ke ve tg it : Expr} {cs : List Expr} {sc : Scope} {own : List (Str × Nat)} {wi : TI} {g : TG} {tt : TT} {tk tv : TE} (cm : X.calm = true) (nd : X.N.Nodup) (at_ : X.N[i]? = some n)
    (loc : X.env.scope.names.lookup n = some .local) (sw : swapsWith (.DictComp ke ve [⟨tg, it, cs, 0⟩] sc q) (some (.Name n qn)) qs.line X.env = pure true) (pi : PI X tg it wi) (bo : BlkOk X.N X.env.scope sc own)
    (pg : ∀ (s : Shared) (H : Hp) (C : Addr) (cl : List (Str × Addr)) (fp : List Addr), PG (X.blk s H sc (compEnvC sc cl C X.env) fp) tg g) (pt : ∀ (s : Shared) (H : Hp) (C : Addr) (cl : List (Str × Addr)) (fp : List Addr), PTs (X.blk s H sc (compEnvC sc cl C X.env) fp) cs tt)
    (pk : ∀ (s : Shared) (H : Hp) (C : Addr) (cl : List (Str × Addr)) (fp : List Addr), PE (X.blk s H sc (compEnvC sc cl C X.env) fp) ke tk)
    (pv : ∀ (s : Shared) (H : Hp) (C : Addr) (cl : List (Str × Addr)) (fp : List Addr), PE (X.blk s H sc (compEnvC sc cl C X.env) fp) ve tv) (fo : ∀ x, foldedSetIterable it X.env x = pure x := by intro _; rfl) :
    PS X (.Assign [.Name n qn] (.DictComp ke ve [⟨tg, it, cs, 0⟩] sc q) qs) (tAsg (tDc wi g tt tk tv (own.map (·.2))) (gName i)) := by
  constructor
  intro pins s σ H D I want
  rw [exec_Assign_Name_used _ _ _ _ sw]
  refine wpAny_bind (wpAny_standAt ?_)
  refine wpAny_bind ?_
  show wpAny _ X.A (do
    let _ ← comprehension (.DictComp ke ve [⟨tg, it, cs, 0⟩] sc q) sc X.env (firstIterPos [⟨tg, it, cs, 0⟩] q) newDict false (eval it X.env) (some (assign (.Name n qn) X.env))) _ _ s
  have want' : tDc wi g tt tk tv (own.map (·.2)) σ H (fun x H1 => gName i x σ H1 D.nx) := want
  refine wpAny_bind (thn (dc_core (Qf := fun _ z => SP X pins D .next z) cm nd I pi bo pg pt pk pv fo want' ?_) fun _ z y => wpAny_pure (wpAny_pure y))
  intro L C t m H' J now hn f
  show wpAny _ _ (assign (.Name n qn) X.env (.ref L)) _ _ _
  refine wpAny_assign_Name (store_ok2 (v := V.ref L) J nd at_ (.inl loc) rfl ?_ (.inr loc))
  intro u J2 ⟨b, only, hb⟩
  obtain ⟨f0, f1, f2, f3, f4, f5⟩ := f
  have away : C ≠ b := by
    rcases hb with z | z
    · exact z ▸ f1
    · exact fun e => f4 n b z e.symm
  refine ⟨m, hn.sameBut only away, fun h3 only3 => ⟨_, H', ?_, now⟩⟩
  exact J2.turned (t' := u.toks) (fun c o hc e => (only3.2 c hc).trans e) f0 f1 f3 f4 f5
/-! ### methods and makers that may be called under any guards -/
structure Md (P : Program) (w : World) (K : PySem.W.Frag) (mg : Str → Option Value) (base : Heap) (k : Nat) (C : Addr) (m : Str) (sp : Sp) : Prop where
  ex : ∃ (f : Addr) (fd : FuncData) (ps : List Str), Meth K C m f ∧ FnOk P w K mg base CX0 k f fd ps sp ∧ Binds K fd ps []
structure Mkr (P : Program) (w : World) (K : PySem.W.Frag) (mg : Str → Option Value) (base : Heap) (k : Nat) (C : Addr) (x : Str) (sp : Sp) : Prop where
  ex : ∃ (f : Addr) (fd : FuncData) (ps : List Str), L2.Mk K C f ∧ mg x = some (.ref C) ∧ FnOk P w K mg base CX0 k f fd ps sp ∧ Binds K fd ps []
section
variable {X : Cx} {k j : Nat} {C : Addr} {m x : Str} {sp : Sp} {p pos apos : Pos} {o e : Expr} {es : List Expr} {ta : TE} {t : TA}
theorem pe_m {pl : Sem Bool} (c : Cls X.K C) (M : Md X.prog X.w X.K X.mg X.base k C m sp) (hr : Room j X.A) (hk : k ≤ j) (he : PE X o ta) (ha : PA X (e :: es) t)
    (hst : starEach (e :: es) X.env = (false, eval e X.env) :: starEach es X.env := by rfl) (hpl : (backTo pos (starEach es X.env)).any (·.1) = false := by rfl)
    (ht : eval (.Call (.Attribute o m apos) (e :: es) [] pos) X.env = (do
      let ov ← eval o X.env
      standAt apos.atName
      let (f, first) ← holding [ov] (getMethod ov m pl)
      callWith pos f first (backTo pos (starEach (e :: es) X.env)) (backToKw pos (keywordEach [] X.env))) := by rfl) :
    PE X (.Call (.Attribute o m apos) (e :: es) [] pos) (tMeth C m sp [] E0 ta t) := by
  obtain ⟨f, fd, ps, hm, F, b⟩ := M.ex
  exact pe_meth he c hm F (hr.mono hk) b .nil (fun _ _ _ _ _ _ _ z => z.elim) ha hst hpl ht
theorem pe_m0' {pl : Sem Bool} (c : Cls X.K C) (M : Md X.prog X.w X.K X.mg X.base k C m sp) (hr : Room j X.A) (hk : k ≤ j) (he : PE X o ta)
    (ht : eval (.Call (.Attribute o m apos) [] [] pos) X.env = (do
      let ov ← eval o X.env
      standAt apos.atName
      let (f, first) ← holding [ov] (getMethod ov m pl)
      callWith pos f first (backTo pos (starEach [] X.env)) (backToKw pos (keywordEach [] X.env))) := by rfl) :
    PE X (.Call (.Attribute o m apos) [] [] pos) (tMeth C m sp [] E0 ta tNil) := by
  obtain ⟨f, fd, ps, hm, F, b⟩ := M.ex
  exact pe_meth0 he c hm F (hr.mono hk) b .nil (fun _ _ _ _ _ _ _ z => z.elim) ht
theorem pe_mkr (M : Mkr X.prog X.w X.K X.mg X.base k C x sp) (hr : Room j X.A) (hk : k + 1 ≤ j) (hg : Gl X x) (ha : PA X (e :: es) t)
    (hdb : (x == ("__debug__" : Str)) = false := by decide) (he : starEach (e :: es) X.env = (false, eval e X.env) :: starEach es X.env := by rfl) (hpl : (backTo pos (starEach es X.env)).any (·.1) = false := by rfl) :
    PE X (.Call (.Name x p) (e :: es) [] pos) (tMake C sp [] E0 t) := by
  obtain ⟨f, fd, ps, mk, hm, F, b⟩ := M.ex
  exact pe_make mk F (hr.mono hk) hg hm b .nil (fun _ _ _ _ _ _ _ z => z.elim) ha hdb he hpl
end
end Rt
namespace K07
open PySem PySem.Spec L2 Rt
open PyProof.Rows hiding St
abbrev sNet (j : Nat) : Stmt := inClass (top 26) j
abbrev sInit : Stmt := inClass (top 26) 0
/-! ### places -/
def placesFrom : Nat → List Str → List (Key × V)
  | _, [] => []
  | k, x :: r => (Sum.inr x, V.int (k : Nat)) :: placesFrom (k + 1) r
theorem places_len : ∀ (l : List Str) (k : Nat), (placesFrom k l).length = l.length
  | [], _ => rfl
  | _ :: l, k => congrArg (· + 1) (places_len l (k + 1))
theorem places_app (x : Str) : ∀ (l : List Str) (k : Nat), placesFrom k (l ++ [x]) = placesFrom k l ++ [(Sum.inr x, V.int ((k + l.length : Nat) : Int))]
  | [], k => rfl
  | y :: l, k => by
    show _ :: placesFrom (k + 1) (l ++ [x]) = _
    rw [places_app x l (k + 1)]
    show _ = (Sum.inr y, V.int (k : Nat)) :: (placesFrom (k + 1) l ++ [(Sum.inr x, V.int ((k + (l.length + 1) : Nat) : Int))])
    rw [show k + 1 + l.length = k + (l.length + 1) by omega]
theorem places_no {x : Str} : ∀ (l : List Str) (k : Nat), x ∉ l → valV (placesFrom k l) (Sum.inr x) = none
  | [], _, _ => rfl
  | y :: l, k, h => by
    show valV ((Sum.inr y, V.int (k : Nat)) :: placesFrom (k + 1) l) _ = _
    rw [valV_neg (fun e => h (by cases e; exact List.mem_cons_self))]
    exact places_no l (k + 1) fun m => h (List.mem_cons_of_mem _ m)
theorem places_at : ∀ (l : List Str) (k i : Nat) (h : i < l.length), l.Nodup → valV (placesFrom k l) (Sum.inr l[i]) = some (V.int ((k + i : Nat) : Int))
  | [], _, _, h, _ => absurd h (by simp)
  | y :: l, k, 0, _, _ => by
    show valV ((Sum.inr y, V.int (k : Nat)) :: placesFrom (k + 1) l) (Sum.inr y) = _
    rw [valV_pos rfl]
    rfl
  | y :: l, k, i + 1, h, nd => by
    have nd' := List.nodup_cons.mp nd
    have hi : i < l.length := Nat.lt_of_succ_lt_succ h
    show valV ((Sum.inr y, V.int (k : Nat)) :: placesFrom (k + 1) l) (Sum.inr l[i]) = _
    rw [valV_neg (fun e => nd'.1 (by cases e; exact List.getElem_mem hi)), places_at l (k + 1) i hi nd'.2]
    rw [show k + 1 + i = k + (i + 1) by omega]
theorem places_some {l : List Str} {x : Str} (nd : l.Nodup) (m : x ∈ l) : (valV (placesFrom 0 l) (Sum.inr x)).isSome = true := by
  obtain ⟨i, hi, e⟩ := List.getElem_of_mem m
  rw [← e, places_at l 0 i hi nd]
  rfl
/-! ### what a network is -/
abbrev namesOf (ps : List Pt) : List Str := ps.map (·.1)
structure Good (ps : List Pt) (rs : List Rl) : Prop where
  ok : ∀ x, x ∈ ps → PtOk x
  nd : (namesOf ps).Nodup
  few : ps.length ≤ 100
  ends : ∀ r, r ∈ rs → r.1 ∈ namesOf ps ∧ r.2.1 ∈ namesOf ps
  fewR : rs.length ≤ 1000
structure NetAt (H : Hp) (C a : Addr) (ps : List Pt) (rs : List Rl) : Prop where
  ex : ∃ (dx PA RA DA : Addr) (as bs : List Addr), H a = some (.ins C dx [("_points", .ref PA), ("_rules", .ref RA), ("_places", .ref DA)]) ∧ H PA = some (.tup (as.map V.ref)) ∧ H RA = some (.tup (bs.map V.ref)) ∧
    H DA = some (.dK (placesFrom 0 (namesOf ps))) ∧ Row ptV H as ps ∧ Row rlV H bs rs
theorem NetAt.same {H H' : Hp} {C a : Addr} {ps : List Pt} {rs : List Rl} (h : NetAt H C a ps rs) (s : Same H H') : NetAt H' C a ps rs := by
  obtain ⟨dx, PA, RA, DA, as, bs, h1, h2, h3, h4, h5, h6⟩ := h.ex
  exact ⟨dx, PA, RA, DA, as, bs, s _ _ h1, s _ _ h2, s _ _ h3, s _ _ h4, h5.same s, h6.same s⟩
def Sbut (a : Addr) (H H' : Hp) : Prop := ∀ b o, H b = some o → b ≠ a → H' b = some o
theorem Sbut.refl {a : Addr} {H : Hp} : Sbut a H H := fun _ _ e _ => e
theorem Sbut.trans {a : Addr} {H H1 H2 : Hp} (x : Sbut a H H1) (y : Sbut a H1 H2) : Sbut a H H2 := fun b o e n => y b o (x b o e n) n
theorem Sbut.of {a : Addr} {H H' : Hp} (s : Same H H') : Sbut a H H' := fun b o e _ => s b o e
theorem Sbut.put {a : Addr} {o : HO} {H : Hp} : Sbut a H (upd H a o) := fun b u e n => by
  rw [upd_ne n]
  exact e
theorem Row.but {α : Type} {f : α → HO} {a : Addr} {H H' : Hp} {as : List Addr} {ps : List α} (r : Row f H as ps) (s : Sbut a H H') (n : a ∉ as) : Row f H' as ps :=
  ⟨r.1, fun i b p h1 h2 => s _ _ (r.2 i b p h1 h2) fun e => n (e ▸ List.mem_of_getElem? h1)⟩
theorem row_not {α : Type} {f : α → HO} {a : Addr} {o : HO} {H : Hp} {as : List Addr} {ps : List α} (r : Row f H as ps) (h : H a = some o) (d : ∀ p, o ≠ f p) : a ∉ as := fun m => by
  obtain ⟨i, hi, e⟩ := List.getElem_of_mem m
  have hp : i < ps.length := by rw [← r.1]; exact hi
  have q := r.2 i a ps[i] (by rw [List.getElem?_eq_getElem hi, e]) (List.getElem?_eq_getElem hp)
  rw [h] at q
  exact d _ (Option.some.inj q)
def spInit (C : Addr) : Sp := fun vs H Q _ => ∃ (a dx p q : Addr) (as bs : List Addr) (ps : List Pt) (rs : List Rl), vs = [.ref a, .ref p, .ref q] ∧ H a = some (.ins C dx []) ∧ H p = some (.lst (as.map V.ref)) ∧ H q = some (.lst (bs.map V.ref)) ∧
  Row ptV H as ps ∧ Row rlV H bs rs ∧ Good ps rs ∧ ∀ H', Sbut a H H' → NetAt H' C a ps rs → Q .non H'
theorem putF_2 {x y : V} : putF "_rules" y [(("_points" : Str), x)] = [(("_points" : Str), x), (("_rules" : Str), y)] := by
  simp only [putF]
  rw [if_neg (by decide +kernel)]
theorem putF_3 {x y z : V} : putF "_places" z [(("_points" : Str), x), (("_rules" : Str), y)] = [(("_points" : Str), x), (("_rules" : Str), y), (("_places" : Str), z)] := by
  simp only [putF]
  rw [if_neg (by decide +kernel), if_neg (by decide +kernel)]
structure ClsN (K : PySem.W.Frag) (C : Addr) : Prop where
  cls : Cls K C
  n1 : NoAttr K C "_points"
  n2 : NoAttr K C "_rules"
  n3 : NoAttr K C "_places"
section
variable {P : Program} {w : World} {K : PySem.W.Frag} {mg : Str → Option Value} {base : Heap}
theorem scInit : FnScope ["self", "points", "rules", "wrong", "places", "k", "point", "rule"] ["self", "points", "rules"] (defScope sInit) := ⟨rfl, rfl, rfl, by decide +kernel, rfl, by decide +kernel, by decide +kernel⟩
theorem ok_init {f C : Addr} {fd : FuncData} (F : Fun K "__init__" "Network.__init__" sInit f fd) (T : Wds mg) (cn : ClsN K C) (wips : Cf P w K mg base 3 "wrong_in_points" spWips) (wirs : Cf P w K mg base 3 "wrong_in_rules" spWirs) : FnOk P w K mg base CX0 4 f fd ["self", "points", "rules"] (spInit C) := by
  refine F.ok scInit (fun vs H Q E h => ?_) (fun cdv A outer s H vs Q E hr h => ?_)
  · obtain ⟨a, dx, p, q, as, bs, ps, rs, rfl, _⟩ := h
    rfl
  · obtain ⟨a, dx, p, q, as, bs, ps, rs, rfl, ha, hp, hq, row, rowR, good, k⟩ := h
    refine ⟨_, (pss_cons (ps_set (i := 3) scInit.nd rfl (.inl rfl) (pe_f wips hr (by decide) (by rfl) (pa_cons (pv 1) pa_nil)))
      (pss_cons (ps_if (pt_cmpR op_notN (pv 3) pe_non (nomark _)) (pss_one ps_never) pss_nil)
      (pss_cons (ps_setDc (i := 4) (own := [("k", 5), ("point", 6)]) rfl scInit.nd rfl rfl (sw_dict rfl rfl rfl (by decide +kernel)) (pi_enum (by rfl) T.zenumerate (pa_cons (pv 1) pa_nil)) (blkOk_by (N := ["self", "points", "rules", "wrong", "places", "k", "point", "rule"]) (sc := defScope sInit) (by decide +kernel)) (fun _ _ _ _ _ => (pg_tk (K := K) (n := 2) rfl (by rfl) (pgs_cons (pg_name (i := 5) scInit.nd rfl (.inl rfl)) (pgs_cons (pg_name (i := 6) scInit.nd rfl (.inl rfl)) pgs_nil)) (by rfl) (by rfl))) (fun _ _ _ _ _ => pts_nil) (fun _ _ _ _ _ => (pe_ix (ix_tup : IxR _ (rIxT K)) (pv 6) pe_int (fun _ _ => rfl))) (fun _ _ _ _ _ => (pv 5)))
      (pss_cons (ps_set (i := 3) scInit.nd rfl (.inl rfl) (pe_f wirs hr (by decide) (by rfl) (pa_cons (pv 2) (pa_cons (pv 4) pa_nil))))
      (pss_cons (ps_if (pt_cmpR op_notN (pv 3) pe_non (nomark _)) (pss_one ps_never) pss_nil)
      (pss_cons (ps_fld (pv 0) (pe_callTy call_tuple_of (by rfl) T.ztuple (by decide +kernel) (pa_cons (pe_lc (own := [("point", 6)]) (by rfl) scInit.nd (pi_list (pv 1)) (blkOk_by (N := ["self", "points", "rules", "wrong", "places", "k", "point", "rule"]) (sc := defScope sInit) (by decide +kernel)) (fun _ _ _ _ _ => (pg_name (i := 6) scInit.nd rfl (.inl rfl))) (fun _ _ _ _ _ => pts_nil) (fun _ _ _ _ _ => (pe_callTy (call_tupK (K := K) rfl) (by rfl) T.ztuple (by decide +kernel) (pa_cons (pv 6) pa_nil)))) pa_nil)) (by rfl))
      (pss_cons (ps_fld (pv 0) (pe_callTy call_tuple_of (by rfl) T.ztuple (by decide +kernel) (pa_cons (pe_lc (own := [("rule", 7)]) (by rfl) scInit.nd (pi_list (pv 2)) (blkOk_by (N := ["self", "points", "rules", "wrong", "places", "k", "point", "rule"]) (sc := defScope sInit) (by decide +kernel)) (fun _ _ _ _ _ => (pg_name (i := 7) scInit.nd rfl (.inl rfl))) (fun _ _ _ _ _ => pts_nil) (fun _ _ _ _ _ => (pe_callTy (call_tupK (K := K) rfl) (by rfl) T.ztuple (by decide +kernel) (pa_cons (pv 7) pa_nil)))) pa_nil)) (by rfl))
      (pss_one (ps_fld (pv 0) (pv 4) (by rfl)))))))))), ?_⟩
    refine ⟨_, rfl, p, as, ps, rfl, hp, row, good.ok, good.nd, good.few, fun H1 s1 => ?_⟩
    refine ⟨_, rfl, rfl, false, rfl, iteF ?_⟩
    refine ⟨_, rfl, p, _, rfl, SqL.of (s1 _ _ hp), fun D nD => ?_⟩
    refine dc_it walk_enum (fun i H2 => Same H1 H2 ∧ H2 D = some (.dK (placesFrom 0 ((namesOf ps).take i)))) ⟨same_new nD, upd_same⟩ (fun i H2 _ z => SqL.of (z.1 _ _ (s1 _ _ hp))) ?_ ?_
    · rintro i y H2 H3 hi ⟨s2, hD⟩ ⟨t, x1, x2, rfl, ht, rfl, h1, h2⟩
      obtain rfl : V.int (i : Nat) = x1 := Option.some.inj h1
      have hi' : i < as.length := by rw [List.length_map] at hi; exact hi
      have hip : i < ps.length := by rw [← row.1]; exact hi'
      obtain rfl : V.ref as[i] = x2 := by
        have h2 : (as.map V.ref)[i]? = some x2 := h2
        rw [List.getElem?_map, List.getElem?_eq_getElem hi'] at h2
        exact Option.some.inj h2
      have pa : H as[i] = some (.tup [.str ps[i].1, .int ps[i].2.1, .int ps[i].2.2]) := row.2 i _ _ (List.getElem?_eq_getElem hi') (List.getElem?_eq_getElem hip)
      have s4 : Same H (upd H2 t (.tup [.int (i : Nat), .ref as[i]])) := (s1.trans s2).trans (same_new ht)
      have hD4 : (upd H2 t (.tup [.int (i : Nat), .ref as[i]])) D = some (.dK (placesFrom 0 ((namesOf ps).take i))) := by
        rw [upd_ne (ne_of_none hD ht)]
        exact hD
      refine ⟨t, _, rfl, SqT.of upd_same, rfl, _, _, rfl, _, _, rfl, rfl, ?_⟩
      refine ⟨rfl, _, rfl, as[i], _, 0, _, rfl, rfl, SqT.of (s4 _ _ pa), rfl, _, rfl, _, Sum.inr ps[i].1, rfl, hD4, small1000 (by rw [places_len, List.length_take]; have := good.few; omega), ?_, ?_⟩
      · exact fun b o z => by rw [upd_ne (ne_of_none z nD)]; exact (s2.trans (same_new ht)) b o z
      · have no : ps[i].1 ∉ (namesOf ps).take i := by
          rw [← List.map_take]
          exact nodup_at good.nd hip
        rw [upd_same, putK_new _ (places_no _ _ no), List.take_succ, show (namesOf ps)[i]? = some ps[i].1 by rw [List.getElem?_map, List.getElem?_eq_getElem hip]; rfl]
        show _ = some (HO.dK (placesFrom 0 ((namesOf ps).take i ++ [ps[i].1])))
        rw [places_app, List.length_take, Nat.zero_add, Nat.min_eq_left (by rw [List.length_map]; omega)]
    · rintro H2 ⟨s2, hD⟩
      have e1 : (namesOf ps).take (as.map V.ref).length = namesOf ps := List.take_of_length_le (by rw [List.length_map, List.length_map, row.1]; exact Nat.le_refl _)
      rw [e1] at hD
      have t2 := s1.trans s2
      refine ⟨_, rfl, _, rfl, q, D, bs, rs, _, rfl, t2 _ _ hq, rowR.same t2, hD, fun r hr => ?_, fun H3 s3 => ?_⟩
      · obtain ⟨m1, m2⟩ := good.ends r hr
        exact ⟨places_some good.nd m1, places_some good.nd m2⟩
      refine ⟨_, rfl, rfl, false, rfl, iteF ?_⟩
      have t3 := t2.trans s3
      -- tuple of the points
      refine ⟨_, rfl, p, rfl, ⟨_, SqL.of (t3 _ _ hp)⟩, fun D1 nD1 => ?_⟩
      refine lc_it walk_list (fun i H4 => Same H3 H4 ∧ H4 D1 = some (.lst ((as.map V.ref).take i))) ⟨same_new nD1, upd_same⟩ (fun i H4 _ z => SqL.of (z.1 _ _ (t3 _ _ hp))) ?_ ?_
      · rintro i y H4 H5 hi ⟨s4, h4⟩ ⟨rfl, hy⟩
        have hi' : i < as.length := by rw [List.length_map] at hi; exact hi
        have hip : i < ps.length := by rw [← row.1]; exact hi'
        obtain rfl : V.ref as[i] = y := by
          rw [List.getElem?_map, List.getElem?_eq_getElem hi'] at hy
          exact Option.some.inj hy
        have pa := (t3.trans s4) _ _ (row.2 i _ _ (List.getElem?_eq_getElem hi') (List.getElem?_eq_getElem hip))
        refine ⟨rfl, _, rfl, as[i], _, rfl, .inr ⟨SqT.of pa, ?_⟩⟩
        refine ⟨_, h4, small1000 (by rw [List.length_take, List.length_map]; have := good.few; have := row.1; omega), fun b o z => by rw [upd_ne (ne_of_none z nD1)]; exact s4 b o z, ?_⟩
        rw [upd_same, List.take_succ, List.getElem?_map, List.getElem?_eq_getElem hi']
        rfl
      · rintro H4 ⟨s4, h4⟩
        rw [List.take_of_length_le (Nat.le_refl _)] at h4
        refine ⟨D1, _, rfl, .inl ⟨SqL.of h4, fun PA nPA => ?_⟩⟩
        have s5 := s4.trans (same_new (o := .tup (as.map V.ref)) nPA)
        have t5 := t3.trans s5
        have hD5 := (s3.trans s5) _ _ hD
        have hPA5 : (upd H4 PA (.tup (as.map V.ref))) PA = some (.tup (as.map V.ref)) := upd_same
        revert hD5 hPA5 t5
        generalize upd H4 PA (.tup (as.map V.ref)) = H5
        intro t5 hD5 hPA5
        have ha5 := t5 _ _ ha
        have pa_a : PA ≠ a := ne_of hPA5 ha5 (by intro z; cases z)
        have d_a : D ≠ a := ne_of hD5 ha5 (by intro z; cases z)
        have q_a : q ≠ a := ne_of hq ha (by intro z; cases z)
        have na : a ∉ as := row_not row ha (fun p z => by cases z)
        have nb : a ∉ bs := row_not rowR ha (fun p z => by cases z)
        refine ⟨_, rfl, a, C, dx, [], rfl, ha5, cn.cls, cn.n1, (by decide : 0 < 1000), ?_⟩
        rw [show putF "_points" (V.ref PA) [] = [(("_points" : Str), V.ref PA)] from rfl]
        have b6 : Sbut a H (upd H5 a (.ins C dx [("_points", .ref PA)])) := (Sbut.of t5).trans Sbut.put
        have ha6 : (upd H5 a (.ins C dx [("_points", .ref PA)])) a = some (.ins C dx [("_points", .ref PA)]) := upd_same
        have hPA6 : (upd H5 a (.ins C dx [("_points", .ref PA)])) PA = some (.tup (as.map V.ref)) := by rw [upd_ne pa_a]; exact hPA5
        have hD6 : (upd H5 a (.ins C dx [("_points", .ref PA)])) D = some (.dK (placesFrom 0 (namesOf ps))) := by rw [upd_ne d_a]; exact hD5
        revert b6 ha6 hPA6 hD6
        generalize upd H5 a (.ins C dx [("_points", .ref PA)]) = H6
        intro b6 ha6 hPA6 hD6
        -- tuple of the rules
        refine ⟨_, rfl, q, rfl, ⟨_, SqL.of (b6 _ _ hq q_a)⟩, fun D2 nD2 => ?_⟩
        refine lc_it walk_list (fun i H7 => Same H6 H7 ∧ H7 D2 = some (.lst ((bs.map V.ref).take i))) ⟨same_new nD2, upd_same⟩ (fun i H7 _ z => SqL.of (z.1 _ _ (b6 _ _ hq q_a))) ?_ ?_
        · rintro i y H7 H8 hi ⟨s7, h7⟩ ⟨rfl, hy⟩
          have hi' : i < bs.length := by rw [List.length_map] at hi; exact hi
          have hip : i < rs.length := by rw [← rowR.1]; exact hi'
          obtain rfl : V.ref bs[i] = y := by
            rw [List.getElem?_map, List.getElem?_eq_getElem hi'] at hy
            exact Option.some.inj hy
          have pb := s7 _ _ ((rowR.but b6 nb).2 i _ _ (List.getElem?_eq_getElem hi') (List.getElem?_eq_getElem hip))
          refine ⟨rfl, _, rfl, bs[i], _, rfl, .inr ⟨SqT.of pb, ?_⟩⟩
          refine ⟨_, h7, small1000 (by rw [List.length_take, List.length_map]; have := good.fewR; have := rowR.1; omega), fun b o z => by rw [upd_ne (ne_of_none z nD2)]; exact s7 b o z, ?_⟩
          rw [upd_same, List.take_succ, List.getElem?_map, List.getElem?_eq_getElem hi']
          rfl
        · rintro H7 ⟨s7, h7⟩
          rw [List.take_of_length_le (Nat.le_refl _)] at h7
          refine ⟨D2, _, rfl, .inl ⟨SqL.of h7, fun RA nRA => ?_⟩⟩
          have s8 := s7.trans (same_new (o := .tup (bs.map V.ref)) nRA)
          have hRA8 : (upd H7 RA (.tup (bs.map V.ref))) RA = some (.tup (bs.map V.ref)) := upd_same
          revert s8 hRA8
          generalize upd H7 RA (.tup (bs.map V.ref)) = H8
          intro s8 hRA8
          have ha8 := s8 _ _ ha6
          have ra_a : RA ≠ a := ne_of hRA8 ha8 (by intro z; cases z)
          refine ⟨_, rfl, a, C, dx, _, rfl, ha8, cn.cls, cn.n2, (by decide : 1 < 1000), ?_⟩
          rw [show putF "_rules" (V.ref RA) [(("_points" : Str), V.ref PA)] = [(("_points" : Str), V.ref PA), (("_rules" : Str), V.ref RA)] from putF_2]
          refine ⟨_, rfl, _, rfl, a, C, dx, _, rfl, upd_same, cn.cls, cn.n3, (by decide : 2 < 1000), ?_⟩
          rw [upd_upd, show putF "_places" (V.ref D) [(("_points" : Str), V.ref PA), (("_rules" : Str), V.ref RA)] = [(("_points" : Str), V.ref PA), (("_rules" : Str), V.ref RA), (("_places" : Str), V.ref D)] from putF_3]
          have b9 : Sbut a H (upd H8 a (.ins C dx [("_points", .ref PA), ("_rules", .ref RA), ("_places", .ref D)])) := (b6.trans (Sbut.of s8)).trans Sbut.put
          refine k _ b9 ⟨dx, PA, RA, D, as, bs, upd_same, ?_, ?_, ?_, row.but b9 na, rowR.but b9 nb⟩
          · rw [upd_ne pa_a]
            exact s8 _ _ hPA6
          · rw [upd_ne ra_a]
            exact hRA8
          · rw [upd_ne d_a]
            exact s8 _ _ hD6
end
end K07
namespace Rt
open PySem PySem.Spec L2
open PyProof.Rows hiding St
/-! ### a built-in function that stands among the names of the module -/
theorem pe_bg {X : Cx} {x : Str} {p pos : Pos} {e : Expr} {es : List Expr} {t : TA} {id : String} {r : List V → Hp → VK → Prop} (c : CallR X (.builtin id) r) (hx : Gl X x) (m : X.mg x = some (.builtin id)) (a : PA X (e :: es) t)
    (nodbg : (x == ("__debug__" : Str)) = false := by decide) (st : starEach (e :: es) X.env = (false, eval e X.env) :: starEach es X.env := by rfl)
    (pl : (backTo pos (starEach es X.env)).any (·.1) = false := by rfl) : PE X (.Call (.Name x p) (e :: es) [] pos) (tCB r t) := by
  constructor
  intro pins s σ H Q I want
  refine wpAny_Call_Name_kw (ld_glob I hx m ?_ nodbg)
  refine PyProof.Rows.callWith_builtin1 (thn (a.run pos pins s σ H _ I want) ?_) st pl
  rintro us s1 ⟨vs, H1, J, rv, q⟩
  exact c pins s1 σ H1 vs us Q J rv q
def rLcm : List V → Hp → VK → Prop := fun vs H Q => ∃ a b : Nat, vs = [.int a, .int b] ∧ a < 2 ^ 60 ∧ b < 2 ^ 60 ∧ Nat.lcm a b < 2 ^ 60 ∧ Q (.int (Nat.lcm a b : Nat)) H
theorem call_lcm {X : Cx} : CallR X (.builtin "math.lcm") rLcm := by
  intro pins s σ H vs us Q I rv want
  obtain ⟨a, b, rfl, ha, hb, hl, q⟩ := want
  obtain ⟨u1, u2, rfl, ⟨t1, rfl⟩, ⟨t2, rfl⟩⟩ := vals2 rv
  have e : ((((Nat.lcm 1 (a : Int).natAbs).lcm (b : Int).natAbs : Nat) : Int)) = ((Nat.lcm a b : Nat) : Int) := by
    rw [Int.natAbs_natCast, Int.natAbs_natCast, Nat.lcm_one_left]
  refine PySem.W.mg_lcm_v (by rw [Int.natAbs_natCast]; omega) (by rw [Int.natAbs_natCast]; omega) e ?_ ⟨.int _, H, I.tok _, ⟨_, rfl⟩, q⟩
  rw [Int.natAbs_natCast]
  have : (Nat.lcm a b).log2 < 60 := by
    rcases Nat.eq_zero_or_pos (Nat.lcm a b) with z | z
    · rw [z]
      decide
    · exact (Nat.log2_lt (by omega)).mpr hl
  exact Nat.lt_trans this (by decide)
end Rt
namespace K07
open PySem PySem.Spec L2 Rt
open PyProof.Rows hiding St
abbrev sMPoints : Stmt := inClass (top 26) 1
abbrev sMRules : Stmt := inClass (top 26) 2
abbrev sMNames : Stmt := inClass (top 26) 3
abbrev sMHas : Stmt := inClass (top 26) 4
abbrev sMIndex : Stmt := inClass (top 26) 6
abbrev sMPeriod : Stmt := inClass (top 26) 7
def spPoints (C : Addr) : Sp := fun vs H Q _ => ∃ (a : Addr) (ps : List Pt) (rs : List Rl), vs = [.ref a] ∧ NetAt H C a ps rs ∧ ∀ (L : Addr) (as : List Addr) (H' : Hp), H L = none → Same H H' → H' L = some (.lst (as.map V.ref)) → Row ptV H' as ps → Q (.ref L) H'
def spRules (C : Addr) : Sp := fun vs H Q _ => ∃ (a : Addr) (ps : List Pt) (rs : List Rl), vs = [.ref a] ∧ NetAt H C a ps rs ∧ ∀ (L : Addr) (as : List Addr) (H' : Hp), H L = none → Same H H' → H' L = some (.lst (as.map V.ref)) → Row rlV H' as rs → Q (.ref L) H'
def spMNames (C : Addr) : Sp := fun vs H Q _ => ∃ (a : Addr) (ps : List Pt) (rs : List Rl), vs = [.ref a] ∧ NetAt H C a ps rs ∧ ps.length ≤ 100 ∧ ∀ (L : Addr) (H' : Hp), H L = none → Same H H' → H' L = some (.lst ((namesOf ps).map V.str)) → Q (.ref L) H'
def spMHas (C : Addr) : Sp := fun vs H Q _ => ∃ (a : Addr) (x : Str) (ps : List Pt) (rs : List Rl), vs = [.ref a, .str x] ∧ NetAt H C a ps rs ∧ Q (.bl (valV (placesFrom 0 (namesOf ps)) (Sum.inr x)).isSome) H
def spMIndex (C : Addr) : Sp := fun vs H Q _ => ∃ (a : Addr) (ps : List Pt) (rs : List Rl) (i : Nat) (x : Str), vs = [.ref a, .str x] ∧ NetAt H C a ps rs ∧ (namesOf ps).Nodup ∧ (namesOf ps)[i]? = some x ∧ Q (.int i) H
def lcmOf (ps : List Pt) : Nat := ps.foldl (fun l p => Nat.lcm l p.2.2.toNat) 1
def spMPeriod (C : Addr) : Sp := fun vs H Q _ => ∃ (a : Addr) (ps : List Pt) (rs : List Rl) (M : Nat), vs = [.ref a] ∧ NetAt H C a ps rs ∧ (∀ p, p ∈ ps → 1 ≤ p.2.2 ∧ p.2.2.toNat ∣ M) ∧ 0 < M ∧ M < 2 ^ 60 ∧ Q (.int (lcmOf ps)) H
section
variable {P : Program} {w : World} {K : PySem.W.Frag} {mg : Str → Option Value} {base : Heap} {f C : Addr} {fd : FuncData}
theorem look_p {x y z : V} : List.lookup ("_points" : Str) [(("_points" : Str), x), (("_rules" : Str), y), (("_places" : Str), z)] = some x := by simp [List.lookup]
theorem look_r {x y z : V} : List.lookup ("_rules" : Str) [(("_points" : Str), x), (("_rules" : Str), y), (("_places" : Str), z)] = some y := by
  have h : (("_rules" : Str) == ("_points" : Str)) = false := by decide +kernel
  simp only [List.lookup, h, beq_self_eq_true]
theorem look_l {x y z : V} : List.lookup ("_places" : Str) [(("_points" : Str), x), (("_rules" : Str), y), (("_places" : Str), z)] = some z := by
  have h : (("_places" : Str) == ("_points" : Str)) = false := by decide +kernel
  have h2 : (("_places" : Str) == ("_rules" : Str)) = false := by decide +kernel
  simp only [List.lookup, h, h2, beq_self_eq_true]
theorem look_no {m : Str} {x y z : V} (n1 : (m == ("_points" : Str)) = false) (n2 : (m == ("_rules" : Str)) = false) (n3 : (m == ("_places" : Str)) = false) : List.lookup m [(("_points" : Str), x), (("_rules" : Str), y), (("_places" : Str), z)] = none := by
  simp only [List.lookup, n1, n2, n3]
theorem scMPoints : FnScope ["self"] ["self"] (defScope sMPoints) := ⟨rfl, rfl, rfl, by decide +kernel, rfl, by decide +kernel, by decide +kernel⟩
theorem ok_mpoints (F : Fun K "points" "Network.points" sMPoints f fd) (T : Wds mg) (cn : ClsN K C) : FnOk P w K mg base CX0 1 f fd ["self"] (spPoints C) := by
  refine F.ok scMPoints (fun vs H Q E h => ?_) (fun cdv A outer s H vs Q E hr h => ?_)
  · obtain ⟨a, ps, rs, rfl, _⟩ := h
    rfl
  · obtain ⟨a, ps, rs, rfl, net, k⟩ := h
    refine ⟨_, (pss_one (ps_ret (pe_callTy call_list_of (by rfl) T.zlist (by decide +kernel) (pa_cons (pe_fld (pv 0) (by rfl)) pa_nil)))), ?_⟩
    obtain ⟨dx, PA, RA, DA, as, bs, h1, h2, h3, h4, h5, h6⟩ := net.ex
    refine ⟨_, rfl, a, C, dx, _, _, rfl, h1, cn.cls, cn.n1, look_p, ?_⟩
    exact ⟨PA, _, rfl, .inr (SqT.of h2), fun L nL => k L as _ nL (same_new nL) upd_same (h5.same (same_new nL))⟩
theorem scMRules : FnScope ["self"] ["self"] (defScope sMRules) := ⟨rfl, rfl, rfl, by decide +kernel, rfl, by decide +kernel, by decide +kernel⟩
theorem ok_mrules (F : Fun K "rules" "Network.rules" sMRules f fd) (T : Wds mg) (cn : ClsN K C) : FnOk P w K mg base CX0 1 f fd ["self"] (spRules C) := by
  refine F.ok scMRules (fun vs H Q E h => ?_) (fun cdv A outer s H vs Q E hr h => ?_)
  · obtain ⟨a, ps, rs, rfl, _⟩ := h
    rfl
  · obtain ⟨a, ps, rs, rfl, net, k⟩ := h
    refine ⟨_, (pss_one (ps_ret (pe_callTy call_list_of (by rfl) T.zlist (by decide +kernel) (pa_cons (pe_fld (pv 0) (by rfl)) pa_nil)))), ?_⟩
    obtain ⟨dx, PA, RA, DA, as, bs, h1, h2, h3, h4, h5, h6⟩ := net.ex
    refine ⟨_, rfl, a, C, dx, _, _, rfl, h1, cn.cls, cn.n2, look_r, ?_⟩
    exact ⟨RA, _, rfl, .inr (SqT.of h3), fun L nL => k L bs _ nL (same_new nL) upd_same (h6.same (same_new nL))⟩
theorem scMNames : FnScope ["self", "point"] ["self"] (defScope sMNames) := ⟨rfl, rfl, rfl, by decide +kernel, rfl, by decide +kernel, by decide +kernel⟩
theorem ok_mnames (F : Fun K "names" "Network.names" sMNames f fd) (cn : ClsN K C) : FnOk P w K mg base CX0 1 f fd ["self"] (spMNames C) := by
  refine F.ok scMNames (fun vs H Q E h => ?_) (fun cdv A outer s H vs Q E hr h => ?_)
  · obtain ⟨a, ps, rs, rfl, _⟩ := h
    rfl
  · obtain ⟨a, ps, rs, rfl, net, few, k⟩ := h
    refine ⟨_, (pss_one (ps_ret (pe_lc (own := [("point", 1)]) (by rfl) scMNames.nd (pi_tup (pe_fld (pv 0) (by rfl))) (blkOk_by (N := ["self", "point"]) (sc := defScope sMNames) (by decide +kernel)) (fun _ _ _ _ _ => (pg_name (i := 1) scMNames.nd rfl (.inl rfl))) (fun _ _ _ _ _ => pts_nil) (fun _ _ _ _ _ => (pe_ix (ix_tup : IxR _ (rIxT K)) (pv 1) pe_int (fun _ _ => rfl)))))), ?_⟩
    obtain ⟨dx, PA, RA, DA, as, bs, h1, h2, h3, h4, h5, h6⟩ := net.ex
    refine ⟨_, rfl, a, C, dx, _, _, rfl, h1, cn.cls, cn.n1, look_p, PA, rfl, ⟨_, SqT.of h2⟩, fun D nD => ?_⟩
    refine lc_it walk_tup (fun i H1 => Same H H1 ∧ H1 D = some (.lst (((namesOf ps).take i).map V.str))) ⟨same_new nD, upd_same⟩ (fun i H1 _ z => SqT.of (z.1 _ _ h2)) ?_ ?_
    · rintro i y H1 H2 hi ⟨s1, hD⟩ ⟨rfl, hy⟩
      have hi' : i < as.length := by rw [List.length_map] at hi; exact hi
      have hip : i < ps.length := by rw [← h5.1]; exact hi'
      obtain rfl : V.ref as[i] = y := by
        rw [List.getElem?_map, List.getElem?_eq_getElem hi'] at hy
        exact Option.some.inj hy
      have pa : H as[i] = some (.tup [.str ps[i].1, .int ps[i].2.1, .int ps[i].2.2]) := h5.2 i _ _ (List.getElem?_eq_getElem hi') (List.getElem?_eq_getElem hip)
      refine ⟨rfl, _, rfl, as[i], _, 0, _, rfl, rfl, SqT.of (s1 _ _ pa), rfl, ?_⟩
      refine ⟨_, hD, small1000 (by rw [List.length_map, List.length_take]; omega), fun b o z => by rw [upd_ne (ne_of_none z nD)]; exact s1 b o z, ?_⟩
      rw [upd_same, List.take_succ, show (namesOf ps)[i]? = some ps[i].1 by rw [List.getElem?_map, List.getElem?_eq_getElem hip]; rfl, List.map_append]
      rfl
    · rintro H1 ⟨s1, hD⟩
      rw [List.take_of_length_le (by rw [List.length_map, List.length_map, h5.1]; exact Nat.le_refl _)] at hD
      exact k D H1 nD s1 hD
theorem scMHas : FnScope ["self", "value"] ["self", "value"] (defScope sMHas) := ⟨rfl, rfl, rfl, by decide +kernel, rfl, by decide +kernel, by decide +kernel⟩
theorem ok_mhas (F : Fun K "has_name" "Network.has_name" sMHas f fd) (cn : ClsN K C) (isName : Cf P w K mg base 1 "is_name_of" spIsName) : FnOk P w K mg base CX0 2 f fd ["self", "value"] (spMHas C) := by
  refine F.ok scMHas (fun vs H Q E h => ?_) (fun cdv A outer s H vs Q E hr h => ?_)
  · obtain ⟨a, x, ps, rs, rfl, _⟩ := h
    rfl
  · obtain ⟨a, x, ps, rs, rfl, net, k⟩ := h
    refine ⟨_, (pss_one (ps_ret (pe_f isName hr (by decide) (by rfl) (pa_cons (pv 1) (pa_cons (pe_fld (pv 0) (by rfl)) pa_nil))))), ?_⟩
    obtain ⟨dx, PA, RA, DA, as, bs, h1, h2, h3, h4, h5, h6⟩ := net.ex
    exact ⟨_, rfl, _, rfl, a, C, dx, _, _, rfl, h1, cn.cls, cn.n3, look_l, x, DA, _, rfl, h4, k⟩
theorem scMIndex : FnScope ["self", "name"] ["self", "name"] (defScope sMIndex) := ⟨rfl, rfl, rfl, by decide +kernel, rfl, by decide +kernel, by decide +kernel⟩
theorem ok_mindex (F : Fun K "index" "Network.index" sMIndex f fd) (cn : ClsN K C) (hasName : Md P w K mg base 2 C "has_name" (spMHas C)) : FnOk P w K mg base CX0 3 f fd ["self", "name"] (spMIndex C) := by
  refine F.ok scMIndex (fun vs H Q E h => ?_) (fun cdv A outer s H vs Q E hr h => ?_)
  · obtain ⟨a, ps, rs, i, x, rfl, _⟩ := h
    rfl
  · obtain ⟨a, ps, rs, i, x, rfl, net, nd, ix, k⟩ := h
    have hu := hu_of hr
    refine ⟨_, (pss_cons (ps_if (pt_not (pt_val (pe_m cn.cls hasName hr (by decide) (pv 0) (pa_cons (pv 1) pa_nil)))) (pss_one ps_never) pss_nil)
      (pss_one (ps_ret (pe_dget hu (pe_fld (pv 0) (by rfl)) (pv 1) (fun _ _ => rfl))))), ?_⟩
    obtain ⟨dx, PA, RA, DA, as, bs, h1, h2, h3, h4, h5, h6⟩ := net.ex
    obtain ⟨hi, e⟩ := List.getElem?_eq_some_iff.mp ix
    have q : valV (placesFrom 0 (namesOf ps)) (Sum.inr x) = some (V.int (i : Nat)) := by
      rw [← e, places_at _ 0 i hi nd, Nat.zero_add]
    refine ⟨_, rfl, a, dx, _, rfl, h1, ?_, _, rfl, a, x, ps, rs, rfl, net, true, by rw [q]; rfl, iteF ?_⟩
    · exact look_no (by decide +kernel) (by decide +kernel) (by decide +kernel)
    refine ⟨_, rfl, a, C, dx, _, _, rfl, h1, cn.cls, cn.n3, look_l, _, rfl, DA, _, rfl, ?_, k⟩
    rw [← q]
    exact get_k h4
theorem scMPeriod : FnScope ["self", "period", "point"] ["self"] (defScope sMPeriod) := ⟨rfl, rfl, rfl, by decide +kernel, rfl, by decide +kernel, by decide +kernel⟩
theorem lcm_step (ps : List Pt) (i : Nat) (h : i < ps.length) : lcmOf (ps.take (i + 1)) = Nat.lcm (lcmOf (ps.take i)) ps[i].2.2.toNat := by
  unfold lcmOf
  rw [List.take_succ, List.getElem?_eq_getElem h, List.foldl_append]
  rfl
theorem lcm_dvd {M : Nat} : ∀ (ps : List Pt) (l : Nat), l ∣ M → (∀ p, p ∈ ps → p.2.2.toNat ∣ M) → ps.foldl (fun l p => Nat.lcm l p.2.2.toNat) l ∣ M
  | [], _, h, _ => h
  | p :: ps, l, h, hs => lcm_dvd ps _ (Nat.lcm_dvd h (hs p List.mem_cons_self)) fun q m => hs q (List.mem_cons_of_mem _ m)
theorem ok_mperiod (F : Fun K "period" "Network.period" sMPeriod f fd) (cn : ClsN K C) (hlcm : mg "lcm" = some (.builtin "math.lcm")) : FnOk P w K mg base CX0 1 f fd ["self"] (spMPeriod C) := by
  refine F.ok scMPeriod (fun vs H Q E h => ?_) (fun cdv A outer s H vs Q E hr h => ?_)
  · obtain ⟨a, ps, rs, M, rfl, _⟩ := h
    rfl
  · obtain ⟨a, ps, rs, M, rfl, net, dv, m0, m1, k⟩ := h
    refine ⟨_, (pss_cons (ps_set (i := 1) scMPeriod.nd rfl (.inl rfl) pe_int)
      (pss_cons (ps_for PassesOwn.never rfl (pi_tup (pe_fld (pv 0) (by rfl))) (pg_name (i := 2) scMPeriod.nd rfl (.inl rfl))
        (pss_one (ps_set (i := 1) scMPeriod.nd rfl (.inl rfl) (pe_bg call_lcm (by rfl) hlcm (pa_cons (pv 1) (pa_cons (pe_ix ix_tup (pv 2) pe_int (fun _ _ => rfl)) pa_nil))))))
      (pss_one (ps_ret (pv 1))))), ?_⟩
    obtain ⟨dx, PA, RA, DA, as, bs, h1, h2, h3, h4, h5, h6⟩ := net.ex
    have below : ∀ i, lcmOf (ps.take i) < 2 ^ 60 := fun i => Nat.lt_of_le_of_lt (Nat.le_of_dvd m0 (lcm_dvd (ps.take i) 1 (Nat.one_dvd M) fun p m => (dv p (List.mem_of_mem_take m)).2)) m1
    refine ⟨_, rfl, a, C, dx, _, _, rfl, h1, cn.cls, cn.n1, look_p, PA, rfl, ⟨_, SqT.of h2⟩, ?_⟩
    refine for_it walk_tup (fun i σ H1 => ∃ v2 : Option V, σ = [some (.ref a), some (.int (lcmOf (ps.take i) : Nat)), v2] ∧ H1 = H) ⟨_, rfl, rfl⟩ (fun i σ H1 _ ⟨_, _, e⟩ => by rw [e]; exact SqT.of h2) ?_ ?_
    · rintro i y σ H1 H2 hi ⟨v2, rfl, rfl⟩ ⟨rfl, hy⟩
      have hi' : i < as.length := by rw [List.length_map] at hi; exact hi
      have hip : i < ps.length := by rw [← h5.1]; exact hi'
      obtain rfl : V.ref as[i] = y := by
        rw [List.getElem?_map, List.getElem?_eq_getElem hi'] at hy
        exact Option.some.inj hy
      have pa := h5.2 i _ _ (List.getElem?_eq_getElem hi') (List.getElem?_eq_getElem hip)
      obtain ⟨d1, d2⟩ := dv _ (List.getElem_mem hip)
      have e2 : ps[i].2.2 = ((ps[i].2.2.toNat : Nat) : Int) := (Int.toNat_of_nonneg (by omega)).symm
      refine ⟨_, rfl, _, rfl, as[i], [.str ps[i].1, .int ps[i].2.1, .int ps[i].2.2], 2, _, rfl, rfl, SqT.of pa, rfl, lcmOf (ps.take i), ps[i].2.2.toNat, by rw [← e2], below i, Nat.lt_of_le_of_lt (Nat.le_of_dvd m0 d2) m1, by rw [← lcm_step ps i hip]; exact below (i + 1), ?_⟩
      refine ⟨some (.ref as[i]), ?_, rfl⟩
      rw [lcm_step ps i hip]
      rfl
    · rintro σ H1 ⟨v2, rfl, rfl⟩
      rw [List.take_of_length_le (by rw [List.length_map, h5.1]; exact Nat.le_refl _)]
      exact ⟨_, rfl, k⟩
end
end K07
namespace K07
open PySem PySem.Spec L2 Rt
open PyProof.Rows hiding St
abbrev sLInt : Stmt := top 35
/-! ### values of all kinds -/
def kindOf : HO → Option String
  | .lst _ => some "list"
  | .tup _ => some "tuple"
  | .dK _ => some "dict"
  | _ => none
def Od (H : Hp) : V → Prop
  | .ref t => ∃ o T, H t = some o ∧ kindOf o = some T
  | .ty _ => False
  | .byt _ => False
  | .flt _ => False
  | _ => True
def isI : V → Bool
  | .int _ => true
  | _ => false
theorem od_type {K : PySem.W.Frag} {H : Hp} {v : V} (h : Od H v) : ∃ T b1 b2, TyX K H v (.type T) ∧ kitB T "int" = some b1 ∧ kitB T "bool" = some b2 ∧ (b1 && !b2) = isI v := by
  cases v with
  | non => exact ⟨_, false, false, .base .non, by decide +kernel, by decide +kernel, rfl⟩
  | bl b => exact ⟨_, true, true, .base (.bl b), by decide +kernel, by decide +kernel, rfl⟩
  | int i => exact ⟨_, true, false, .base (.int i), by decide +kernel, by decide +kernel, rfl⟩
  | str x => exact ⟨_, false, false, .base (.str x), by decide +kernel, by decide +kernel, rfl⟩
  | byt b => exact h.elim
  | flt b => exact h.elim
  | ty n => exact h.elim
  | ref t =>
    obtain ⟨o, T, e, k⟩ := h
    cases o with
    | lst xs => exact ⟨_, false, false, .base (.lst e), by decide +kernel, by decide +kernel, rfl⟩
    | tup xs => exact ⟨_, false, false, .base (.tup e), by decide +kernel, by decide +kernel, rfl⟩
    | dK kvs => exact ⟨_, false, false, .base (.dK e), by decide +kernel, by decide +kernel, rfl⟩
    | _ => cases k
def onB (f s : Int) : V → Bool
  | .int i => decide ((i - f) % s = 0)
  | _ => false
theorem dec_V (i j : Int) : decide (V.int i = V.int j) = decide (i = j) := by
  by_cases h : i = j
  · subst h
    simp
  · rw [decide_eq_false h]
    exact decide_eq_false fun z => h (V.int.inj z)
/-! ### promises -/
def spIsInt : Sp := fun vs H Q _ => ∃ v, vs = [v] ∧ Od H v ∧ Q (.bl (isI v)) H
def spOn : Sp := fun vs H Q _ => ∃ (t : Addr) (f s : Int) (v : V), vs = [.ref t, v] ∧ H t = some (.tup [.int f, .int s]) ∧ 0 < s ∧ Od H v ∧ Q (.bl (onB f s v)) H
theorem Keep.od {d c : Addr} {H H1 : Hp} {v : V} (a : Keep d c H H1) (w : ∀ t, v = .ref t → t ≠ d ∧ t ≠ c) (h : Od H v) : Od H1 v := by
  cases v with
  | ref t =>
    obtain ⟨o, T, e, k⟩ := h
    obtain ⟨n1, n2⟩ := w t rfl
    exact ⟨o, T, a t o e n1 n2, k⟩
  | non => exact True.intro
  | bl b => exact True.intro
  | int i => exact True.intro
  | str x => exact True.intro
  | byt b => exact h.elim
  | flt b => exact h.elim
  | ty n => exact h.elim

theorem Od.same {H H' : Hp} {v : V} (s : Same H H') (h : Od H v) : Od H' v := by
  cases v with
  | ref t =>
    obtain ⟨o, T, e, k⟩ := h
    exact ⟨o, T, s _ _ e, k⟩
  | non => exact True.intro
  | bl b => exact True.intro
  | int i => exact True.intro
  | str x => exact True.intro
  | byt b => exact h.elim
  | flt b => exact h.elim
  | ty n => exact h.elim
/-! ### what a judge says -/
/-- a value is judged as a row of items, or as no row -/
inductive Jd (K : PySem.W.Frag) (H : Hp) : V → Option (List V) → Prop where
  | no {v : V} {T : String} (ty : ∀ H', Same H H' → TyX K H' v (.type T)) (k : PySem.W.kitAny K (.type T) [.type "list", .type "tuple"] = some false) : Jd K H v none
  | lst {q : Addr} {xs : List V} (h : H q = some (.lst xs)) (o : ∀ x, x ∈ xs → Od H x) : Jd K H (.ref q) (some xs)
  | tup {q : Addr} {xs : List V} (h : H q = some (.tup xs)) (o : ∀ x, x ∈ xs → Od H x) : Jd K H (.ref q) (some xs)
def onAt (ps : List Pt) (xs : List V) (k : Nat) : Prop := ∃ (p : Pt) (x : V), ps[k]? = some p ∧ xs[k]? = some x ∧ onB p.2.1 p.2.2 x = true
def offAt (ps : List Pt) (xs : List V) (k : Nat) : Prop := ∃ (p : Pt) (x : V), ps[k]? = some p ∧ xs[k]? = some x ∧ onB p.2.1 p.2.2 x = false
/-- the numbers that a rule speaks of -/
def rowAt (ps : List Pt) (xs : List V) (r : Rl) (a b : Int) : Prop := ∃ i j : Nat, (namesOf ps)[i]? = some r.1 ∧ (namesOf ps)[j]? = some r.2.1 ∧ xs[i]? = some (V.int a) ∧ xs[j]? = some (V.int b)
def keepsAt (ps : List Pt) (rs : List Rl) (xs : List V) (k : Nat) : Prop := ∃ r a b, rs[k]? = some r ∧ rowAt ps xs r a b ∧ a + r.2.2 ≤ b
def failsAt (ps : List Pt) (rs : List Rl) (xs : List V) (k : Nat) : Prop := ∃ r a b, rs[k]? = some r ∧ rowAt ps xs r a b ∧ b < a + r.2.2
inductive Verd (ps : List Pt) (rs : List Rl) : Option (List V) → Option (List V) → Prop where
  | form0 : Verd ps rs none (some [.str "form"])
  | form {xs : List V} (h : xs.length ≠ ps.length) : Verd ps rs (some xs) (some [.str "form"])
  | clock {xs : List V} {k : Nat} (h : xs.length = ps.length) (b : ∀ j, j < k → onAt ps xs j) (f : offAt ps xs k) : Verd ps rs (some xs) (some [.str "clock", .int k])
  | rule {xs : List V} {k : Nat} (h : xs.length = ps.length) (c : ∀ j, j < ps.length → onAt ps xs j) (b : ∀ j, j < k → keepsAt ps rs xs j) (f : failsAt ps rs xs k) : Verd ps rs (some xs) (some [.str "rule", .int k])
  | fine {xs : List V} (h : xs.length = ps.length) (c : ∀ j, j < ps.length → onAt ps xs j) (b : ∀ j, j < rs.length → keepsAt ps rs xs j) : Verd ps rs (some xs) none
theorem on_off {ps : List Pt} {xs : List V} {k : Nat} (a : onAt ps xs k) (b : offAt ps xs k) : False := by
  obtain ⟨p, x, h1, h2, h3⟩ := a
  obtain ⟨q, y, g1, g2, g3⟩ := b
  cases h1.symm.trans g1
  cases h2.symm.trans g2
  rw [h3] at g3
  cases g3
theorem name_uniq {l : List Str} (nd : l.Nodup) {i j : Nat} {x : Str} (h : l[i]? = some x) (g : l[j]? = some x) : i = j := by
  obtain ⟨hi, e⟩ := List.getElem?_eq_some_iff.mp h
  obtain ⟨hj, e2⟩ := List.getElem?_eq_some_iff.mp g
  rcases Nat.lt_trichotomy i j with lt | rfl | gt
  · exact absurd (e.trans e2.symm) (List.pairwise_iff_getElem.mp nd i j hi hj lt)
  · rfl
  · exact absurd (e2.trans e.symm) (List.pairwise_iff_getElem.mp nd j i hj hi gt)
theorem row_uniq {ps : List Pt} {xs : List V} {r : Rl} {a b c d : Int} (nd : (namesOf ps).Nodup) (h : rowAt ps xs r a b) (g : rowAt ps xs r c d) : a = c ∧ b = d := by
  obtain ⟨i, j, h1, h2, h3, h4⟩ := h
  obtain ⟨k, l, g1, g2, g3, g4⟩ := g
  cases name_uniq nd h1 g1
  cases name_uniq nd h2 g2
  cases h3.symm.trans g3
  cases h4.symm.trans g4
  exact ⟨rfl, rfl⟩
theorem keeps_fails {ps : List Pt} {rs : List Rl} {xs : List V} {k : Nat} (nd : (namesOf ps).Nodup) (a : keepsAt ps rs xs k) (b : failsAt ps rs xs k) : False := by
  obtain ⟨r, x, y, h1, h2, h3⟩ := a
  obtain ⟨q, u, v, g1, g2, g3⟩ := b
  cases h1.symm.trans g1
  obtain ⟨rfl, rfl⟩ := row_uniq nd h2 g2
  omega
theorem offAt.lt {ps : List Pt} {xs : List V} {k : Nat} (f : offAt ps xs k) : k < ps.length := by
  obtain ⟨p, x, h1, _⟩ := f
  exact (List.getElem?_eq_some_iff.mp h1).1
theorem failsAt.lt {ps : List Pt} {rs : List Rl} {xs : List V} {k : Nat} (f : failsAt ps rs xs k) : k < rs.length := by
  obtain ⟨p, x, y, h1, _⟩ := f
  exact (List.getElem?_eq_some_iff.mp h1).1
theorem verd_uniq {ps : List Pt} {rs : List Rl} {v u w : Option (List V)} (nd : (namesOf ps).Nodup) (h : Verd ps rs v u) (g : Verd ps rs v w) : u = w := by
  cases h with
  | form0 => cases g with | form0 => rfl
  | form a => cases g with
    | form _ => rfl
    | clock e _ _ => exact absurd e a
    | rule e _ _ _ => exact absurd e a
    | fine e _ _ => exact absurd e a
  | @clock xs k e b f => cases g with
    | form a => exact absurd e a
    | @clock _ l _ b2 f2 =>
      rcases Nat.lt_trichotomy k l with lt | rfl | gt
      · exact (on_off (b2 _ lt) f).elim
      · rfl
      · exact (on_off (b _ gt) f2).elim
    | rule _ c _ _ => exact (on_off (c _ f.lt) f).elim
    | fine _ c _ => exact (on_off (c _ f.lt) f).elim
  | @rule xs k e c b f => cases g with
    | form a => exact absurd e a
    | clock _ _ f2 => exact (on_off (c _ f2.lt) f2).elim
    | @rule _ l _ _ b2 f2 =>
      rcases Nat.lt_trichotomy k l with lt | rfl | gt
      · exact (keeps_fails nd (b2 _ lt) f).elim
      · rfl
      · exact (keeps_fails nd (b _ gt) f2).elim
    | fine _ _ b2 => exact (keeps_fails nd (b2 _ f.lt) f).elim
  | fine e c b => cases g with
    | form a => exact absurd e a
    | clock _ _ f2 => exact (on_off (c _ f2.lt) f2).elim
    | rule _ _ _ f2 => exact (keeps_fails nd (b _ f2.lt) f2).elim
    | fine _ _ _ => rfl
/-- how a verdict is told -/
def Tells (H : Hp) : Option (List V) → V → Prop
  | none, v => v = .non
  | some ys, v => ∃ t, v = .ref t ∧ H t = some (.tup ys)
def spJudge (K : PySem.W.Frag) (C : Addr) : Sp := fun vs H Q _ => ∃ (a : Addr) (v : V) (ps : List Pt) (rs : List Rl) (xo : Option (List V)), vs = [.ref a, v] ∧ NetAt H C a ps rs ∧ Good ps rs ∧ Jd K H v xo ∧
  ∀ (u : V) (r : Option (List V)) (H' : Hp), Verd ps rs xo r → Tells H' r u → Same H H' → Q u H'
section
variable {P : Program} {w : World} {K : PySem.W.Frag} {mg : Str → Option Value} {base : Heap}
theorem ok_isInt2 {f : Addr} {fd : FuncData} (F : Fun K "is_integer" "is_integer" sIsInt f fd) (T : Wds mg) : FnOk P w K mg base CX0 1 f fd ["value"] spIsInt := by
  refine F.ok scIsInt (fun vs H Q E h => ?_) (fun cdv A outer s H vs Q E hr h => ?_)
  · obtain ⟨v, rfl, _⟩ := h
    rfl
  · obtain ⟨v, rfl, ho, k⟩ := h
    obtain ⟨T1, b1, b2, ty, k1, k2, e⟩ := od_type (K := K) ho
    refine ⟨_, (pss_one (ps_ret (pe_and (pe_callB call_isi (by rfl) T.zisinstance (by decide +kernel) (pa_cons (pv 0) (pa_cons (pe_bltn (v := .ty "int") (by rfl) T.zint (by decide +kernel) rfl) pa_nil))) (pe_one (pe_not (pe_callB call_isi (by rfl) T.zisinstance (by decide +kernel) (pa_cons (pv 0) (pa_cons (pe_bltn (v := .ty "bool") (by rfl) T.zbool (by decide +kernel) rfl) pa_nil)))))))), ?_⟩
    refine ⟨_, rfl, v, .ty "int", _, .type "int", b1, rfl, .ty _, ty, kit_ty k1, b1, rfl, ?_⟩
    cases b1 with
    | true =>
      refine iteT ?_
      refine ⟨_, rfl, v, .ty "bool", _, .type "bool", b2, rfl, .ty _, ty, kit_ty k2, b2, rfl, ?_⟩
      rw [show (!b2) = isI v from by simpa using e]
      exact k
    | false =>
      refine iteF ?_
      rw [show false = isI v from by simpa using e]
      exact k
end
end K07
namespace K07
open PySem PySem.Spec L2 Rt
open PyProof.Rows hiding St
structure Meths (P : Program) (w : World) (K : PySem.W.Frag) (mg : Str → Option Value) (base : Heap) (C : Addr) : Prop where
  points : Md P w K mg base 1 C "points" (spPoints C)
  rules : Md P w K mg base 1 C "rules" (spRules C)
  names : Md P w K mg base 1 C "names" (spMNames C)
  index : Md P w K mg base 3 C "index" (spMIndex C)
  period : Md P w K mg base 1 C "period" (spMPeriod C)
def Row2 (H : Hp) (q : Addr) (xs : List V) : Prop := H q = some (.lst xs) ∨ H q = some (.tup xs)
theorem Row2.same {H H' : Hp} {q : Addr} {xs : List V} (s : Same H H') (h : Row2 H q xs) : Row2 H' q xs := h.imp (s _ _) (s _ _)
theorem Row2.type {K : PySem.W.Frag} {H : Hp} {q : Addr} {xs : List V} (h : Row2 H q xs) : ∃ T : String, TyX K H (.ref q) (.type T) ∧ PySem.W.kitAny K (.type T) [.type "list", .type "tuple"] = some true := by
  rcases h with h | h
  · exact ⟨_, .base (.lst h), kitLT (.inl rfl)⟩
  · exact ⟨_, .base (.tup h), kitLT (.inr rfl)⟩
theorem Row2.seq {K : PySem.W.Frag} {H : Hp} {q : Addr} {xs : List V} (h : Row2 H q xs) : SqL K H q xs ∨ SqT K H q xs := h.imp SqL.of SqT.of
theorem onB_int {f s : Int} {x : V} (h : onB f s x = true) : ∃ z, x = .int z := by
  cases x with
  | int z => exact ⟨z, rfl⟩
  | _ => exact absurd h (by simp [onB])
theorem num_at {ps : List Pt} {xs : List V} {x : Str} (len : xs.length = ps.length) (on : ∀ j, j < ps.length → onAt ps xs j) (m : x ∈ namesOf ps) : ∃ (i : Nat) (z : Int), (namesOf ps)[i]? = some x ∧ xs[i]? = some (V.int z) := by
  obtain ⟨i, hi, e⟩ := List.getElem_of_mem m
  have hp : i < ps.length := by rw [List.length_map] at hi; exact hi
  obtain ⟨p, y, h1, h2, h3⟩ := on i hp
  obtain ⟨z, rfl⟩ := onB_int h3
  exact ⟨i, z, by rw [List.getElem?_eq_getElem hi, e], h2⟩
theorem rIx_of {K : PySem.W.Frag} {H : Hp} {q : Addr} {xs : List V} {i : Int} {x : V} {Q : VK} (h : Row2 H q xs) (e : atI xs i = some x) (k : Q x H) : rIx K (.ref q) (.int i) H Q := by
  rcases h with h | h
  · exact .inl ⟨q, xs, i, x, rfl, rfl, SqL.of h, e, k⟩
  · exact .inr (.inl ⟨q, xs, i, x, rfl, rfl, SqT.of h, e, k⟩)
theorem atN {xs : List V} {i : Nat} {x : V} (h : xs[i]? = some x) : atI xs (i : Int) = some x := at_of (j := i) rfl h
theorem net_look {H : Hp} {C a : Addr} {ps : List Pt} {rs : List Rl} (h : NetAt H C a ps rs) : ∃ dx fs, H a = some (.ins C dx fs) ∧ ∀ m : Str, (m == ("_points" : Str)) = false → (m == ("_rules" : Str)) = false → (m == ("_places" : Str)) = false → fs.lookup m = none := by
  obtain ⟨dx, PA, RA, DA, as, bs, h1, _⟩ := h.ex
  exact ⟨dx, _, h1, fun m a b c => look_no a b c⟩
theorem kitLT0 {K : PySem.W.Frag} {T : String} (h1 : kitB T "list" = some false) (h2 : kitB T "tuple" = some false) : PySem.W.kitAny K (.type T) [.type "list", .type "tuple"] = some false :=
  kitAny_cons (b := false) (kit_ty h1) (fun _ => kitAny_cons (b := false) (kit_ty h2) (fun _ => kitAny_nil) (fun z => nomatch z)) (fun z => nomatch z)
section
variable {P : Program} {w : World} {K : PySem.W.Frag} {mg : Str → Option Value} {base : Heap} {f C : Addr} {fd : FuncData}
end
end K07
namespace K07
open PySem PySem.Spec L2 Rt
open PyProof.Rows hiding St
structure Rng (mg : Str → Option Value) : Prop where
  zrange : mg "range" = none
  zlen : mg "len" = none
  zmax : mg "max" = none
  zmin : mg "min" = none
  ztuple : mg "tuple" = none
def mx (i j : Int) : Int := if j > i then j else i
def mn (i j : Int) : Int := if j < i then j else i
theorem zip_at (op : Int → Int → Int) {xs ys : List Int} {i : Nat} (hx : i < xs.length) (hy : i < ys.length) : (List.zipWith op xs ys)[i]? = some (op xs[i] ys[i]) := by
  rw [List.getElem?_eq_getElem (by rw [List.length_zipWith]; omega), List.getElem_zipWith]
def spPair (C : Addr) (op : Int → Int → Int) : Sp := fun vs H Q _ => ∃ (a p q : Addr) (ps : List Pt) (rs : List Rl) (xs ys : List Int), vs = [.ref a, .ref p, .ref q] ∧ NetAt H C a ps rs ∧ ps.length ≤ 100 ∧ xs.length = ps.length ∧ ys.length = ps.length ∧
  Row2 H p (xs.map V.int) ∧ Row2 H q (ys.map V.int) ∧ ∀ (t : Addr) (H' : Hp), Same H H' → H' t = some (.tup ((List.zipWith op xs ys).map V.int)) → Q (.ref t) H'
def spShift (C : Addr) : Sp := fun vs H Q _ => ∃ (a p : Addr) (ps : List Pt) (rs : List Rl) (xs : List Int) (n : Int) (M : Nat), vs = [.ref a, .ref p, .int n] ∧ NetAt H C a ps rs ∧ (∀ p, p ∈ ps → 1 ≤ p.2.2 ∧ p.2.2.toNat ∣ M) ∧ 0 < M ∧ M < 2 ^ 60 ∧ xs.length ≤ 100 ∧
  Row2 H p (xs.map V.int) ∧ ∀ (t : Addr) (H' : Hp), Same H H' → H' t = some (.tup ((xs.map fun x => x + (lcmOf ps : Nat) * n).map V.int)) → Q (.ref t) H'
section
variable {P : Program} {w : World} {K : PySem.W.Frag} {mg : Str → Option Value} {base : Heap} {f C : Addr} {fd : FuncData}
end
end K07
namespace K07
open PySem PySem.Spec L2 Rt
open PyProof.Rows hiding St
/-! ### the heap without the source -/
def mask (d c : Addr) (H : Hp) : Hp := fun b => if b = d ∨ b = c then none else H b
section
variable {d c p : Addr} {H H' : Hp} {o : HO}
theorem mask_same : Same (mask d c H) H := fun b u e => by
  unfold mask at e
  split at e
  · cases e
  · exact e
theorem mask_keep (a : Keep d c H H') : Same (mask d c H) (mask d c H') := fun b u e => by
  unfold mask at e ⊢
  split at e
  · cases e
  · rename_i n
    rw [if_neg n]
    exact a b u e (fun z => n (.inl z)) (fun z => n (.inr z))
theorem mask_new (n : H p = none) : Same (mask d c H) (mask d c (upd H p o)) := mask_keep (Keep.refl.new n)
theorem mask_at (n : p ≠ d ∧ p ≠ c) (e : H p = some o) : mask d c H p = some o := by
  unfold mask
  rw [if_neg (fun z => z.elim n.1 n.2)]
  exact e
theorem Src.same (S : Src H d c) (s : Same H H') : Src H' d c := by
  obtain ⟨ks, l, m, u, h1, h2⟩ := S.ex
  exact ⟨ks, l, m, u, s _ _ h1, s _ _ h2⟩
end
abbrev sUp : Stmt := top 34
abbrev sSteps : Stmt := top 36
abbrev sPlace : Stmt := top 39
abbrev sClockOf : Stmt := top 40
abbrev sPeriod : Stmt := top 41
structure Lw (mg : Str → Option Value) : Prop extends Wds mg, Rng mg where
  zabs : mg "abs" = none
  zrepr : mg "repr" = none
  zzip : mg "zip" = none
/-- the least number of a clock from x on, as the law goes -/
def upv (f s x : Int) : Int := f + (x - f + s - 1) / s * s
theorem upv_on (f s x : Int) : (upv f s x - f) % s = 0 := by
  unfold upv
  rw [show f + (x - f + s - 1) / s * s - f = s * ((x - f + s - 1) / s) by rw [Int.mul_comm s]; omega, Int.mul_emod_right]
theorem upv_le {f s x : Int} (h : 0 < s) : x ≤ upv f s x := by
  unfold upv
  have h1 := Int.emod_def (x - f + s - 1) s
  have h2 := Int.emod_lt_of_pos (x - f + s - 1) h
  rw [Int.mul_comm] at h1
  omega
theorem upv_lt {f s x : Int} (h : 0 < s) : upv f s x < x + s := by
  unfold upv
  have h1 := Int.emod_def (x - f + s - 1) s
  have h2 := Int.emod_nonneg (x - f + s - 1) (Int.ne_of_gt h)
  rw [Int.mul_comm] at h1
  omega
def spLUp : Sp := fun vs H Q _ => ∃ (t : Addr) (f s x : Int), vs = [.ref t, .int x] ∧ H t = some (.tup [.int f, .int s]) ∧ 0 < s ∧ s < 1000 ∧ Q (.int (upv f s x)) H
/-- the drawn net as the law keeps it -/
structure LNet (H : Hp) (n : Addr) (ps : List Pt) (rs : List Rl) : Prop where
  ex : ∃ (PA RA : Addr) (as bs : List Addr), H n = some (.dK [(Sum.inr "points", .ref PA), (Sum.inr "rules", .ref RA)]) ∧ H PA = some (.lst (as.map V.ref)) ∧ H RA = some (.lst (bs.map V.ref)) ∧ Row ptV H as ps ∧ Row rlV H bs rs
theorem LNet.same {H H' : Hp} {n : Addr} {ps : List Pt} {rs : List Rl} (h : LNet H n ps rs) (s : Same H H') : LNet H' n ps rs := by
  obtain ⟨PA, RA, as, bs, h1, h2, h3, h4, h5⟩ := h.ex
  exact ⟨PA, RA, as, bs, s _ _ h1, s _ _ h2, s _ _ h3, h4.same s, h5.same s⟩
theorem get_pts {H : Hp} {n PA RA : Addr} (h : H n = some (.dK [(Sum.inr "points", .ref PA), (Sum.inr "rules", .ref RA)])) : DGet H n (.str "points") (some (.ref PA)) := by
  have g := get_k (x := "points") h
  rwa [valV_pos rfl] at g
theorem get_rls {H : Hp} {n PA RA : Addr} (h : H n = some (.dK [(Sum.inr "points", .ref PA), (Sum.inr "rules", .ref RA)])) : DGet H n (.str "rules") (some (.ref RA)) := by
  have g := get_k (x := "rules") h
  rwa [valV_neg (ne_inr (by decide +kernel)), valV_pos rfl] at g
theorem flat_strs : ∀ l : List Str, (l.map V.str).all flatV = true
  | [] => rfl
  | _ :: l => flat_strs l
theorem eqV_str {x y : Str} : eqV (V.str x) (V.str y) = true ↔ x = y := by simp [eqV]
def spPlace : Sp := fun vs H Q _ => ∃ (n : Addr) (ps : List Pt) (rs : List Rl) (i : Nat) (x : Str), vs = [.ref n, .str x] ∧ LNet H n ps rs ∧ (namesOf ps).Nodup ∧ ps.length ≤ 100 ∧ (namesOf ps)[i]? = some x ∧ ∀ H', Same H H' → Q (.int i) H'
def spClockOf : Sp := fun vs H Q _ => ∃ (n : Addr) (ps : List Pt) (rs : List Rl) (i : Nat) (p : Pt), vs = [.ref n, .str p.1] ∧ LNet H n ps rs ∧ (namesOf ps).Nodup ∧ ps.length ≤ 100 ∧ ps[i]? = some p ∧ ∀ (t : Addr) (H' : Hp), Same H H' → H' t = some (.tup [.int p.2.1, .int p.2.2]) → Q (.ref t) H'
section
variable {P : Program} {w : World} {K : PySem.W.Frag} {mg : Str → Option Value} {base : Heap} {f : Addr} {fd : FuncData}
theorem scUp : FnScope ["clock", "x", "laps"] ["clock", "x"] (defScope sUp) := ⟨rfl, rfl, rfl, by decide +kernel, rfl, by decide +kernel, by decide +kernel⟩
theorem ok_up (F : Fun K "_law_up" "_law_up" sUp f fd) (T : Lw mg) : FnG P w K mg base 1 f fd ["clock", "x"] spLUp := by
  refine okG F scUp (fun vs H Q E h => ?_) (fun cdv A outer s H vs Q E hg hr h => ?_)
  · obtain ⟨t, f, s, x, rfl, _⟩ := h
    rfl
  · obtain ⟨t, f, s, x, rfl, ht, hs, hs2, k⟩ := h
    refine ⟨_, (pss_cons (ps_set (i := 2) scUp.nd rfl (.inl rfl) (pe_op op_fdiv (pe_callTy call_int1 (by rfl) T.zint (by decide +kernel) (pa_cons (pe_op op_sub (pe_op op_add (pe_op op_sub (pv 1) (pe_ix ix_tup (pv 0) pe_int (fun _ _ => rfl))) (pe_ix ix_tup (pv 0) pe_int (fun _ _ => rfl))) pe_int) pa_nil)) (pe_ix ix_tup (pv 0) pe_int (fun _ _ => rfl))))
      (pss_one (ps_ret (pe_op op_add (pe_ix ix_tup (pv 0) pe_int (fun _ _ => rfl)) (pe_op op_mul (pv 2) (pe_ix ix_tup (pv 0) pe_int (fun _ _ => rfl))))))), ?_⟩
    have a0 : atI [V.int f, V.int s] 0 = some (V.int f) := rfl
    have a1 : atI [V.int f, V.int s] 1 = some (V.int s) := rfl
    refine ⟨_, rfl, _, rfl, t, _, _, _, rfl, rfl, SqT.of ht, a0, _, _, rfl, rfl, _, rfl, t, _, _, _, rfl, rfl, SqT.of ht, a1, _, _, rfl, rfl, _, _, rfl, rfl, .inl ⟨_, rfl, _, rfl, t, _, _, _, rfl, rfl, SqT.of ht, a1, _, _, rfl, rfl, (by first | omega | exact ⟨by omega, by omega⟩), ?_⟩⟩
    exact ⟨_, rfl, t, _, _, _, rfl, rfl, SqT.of ht, a0, _, rfl, _, rfl, t, _, _, _, rfl, rfl, SqT.of ht, a1, _, _, rfl, rfl, .inr ⟨by omega, by omega⟩, _, _, rfl, rfl, k⟩
theorem scLInt : FnScope ["value"] ["value"] (defScope sLInt) := ⟨rfl, rfl, rfl, by decide +kernel, rfl, by decide +kernel, by decide +kernel⟩
theorem ok_lInt (F : Fun K "_law_is_integer" "_law_is_integer" sLInt f fd) (T : Lw mg) : FnG P w K mg base 1 f fd ["value"] spIsInt := by
  refine okG F scLInt (fun vs H Q E h => ?_) (fun cdv A outer s H vs Q E hg hr h => ?_)
  · obtain ⟨v, rfl, _⟩ := h
    rfl
  · obtain ⟨v, rfl, ho, k⟩ := h
    obtain ⟨T1, b1, b2, ty, k1, k2, e⟩ := od_type (K := K) ho
    refine ⟨_, (pss_one (ps_ret (pe_and (pe_callB call_isi (by rfl) T.zisinstance (by decide +kernel) (pa_cons (pv 0) (pa_cons (pe_bltn (v := .ty "int") (by rfl) T.zint (by decide +kernel) rfl) pa_nil))) (pe_one (pe_not (pe_callB call_isi (by rfl) T.zisinstance (by decide +kernel) (pa_cons (pv 0) (pa_cons (pe_bltn (v := .ty "bool") (by rfl) T.zbool (by decide +kernel) rfl) pa_nil)))))))), ?_⟩
    refine ⟨_, rfl, v, .ty "int", _, .type "int", b1, rfl, .ty _, ty, kit_ty k1, b1, rfl, ?_⟩
    cases b1 with
    | true =>
      refine iteT ?_
      refine ⟨_, rfl, v, .ty "bool", _, .type "bool", b2, rfl, .ty _, ty, kit_ty k2, b2, rfl, ?_⟩
      rw [show (!b2) = isI v from by simpa using e]
      exact k
    | false =>
      refine iteF ?_
      rw [show false = isI v from by simpa using e]
      exact k
theorem scPlace : FnScope ["net", "name", "point"] ["net", "name"] (defScope sPlace) := ⟨rfl, rfl, rfl, by decide +kernel, rfl, by decide +kernel, by decide +kernel⟩
theorem ok_place (F : Fun K "_law_place" "_law_place" sPlace f fd) : FnG P w K mg base 1 f fd ["net", "name"] spPlace := by
  refine okG F scPlace (fun vs H Q E h => ?_) (fun cdv A outer s H vs Q E hg hr h => ?_)
  · obtain ⟨n, ps, rs, i, x, rfl, _⟩ := h
    rfl
  · obtain ⟨n, ps, rs, i, x, rfl, net, nd, few, ix, k⟩ := h
    have hu := hu_of hr
    refine ⟨_, (pss_one (ps_ret (pe_bm PySem.F.plainAttrs_list PySem.F.slot_list_index PySem.F.type_list_index mt_index (pe_lc (own := [("point", 2)]) (by rfl) scPlace.nd (pi_list (pe_dget hu (pv 0) pe_str (fun _ _ => rfl))) (blkOk_by (N := ["net", "name", "point"]) (sc := defScope sPlace) (by decide +kernel)) (fun _ _ _ _ _ => (pg_name (i := 2) scPlace.nd rfl (.inl rfl))) (fun _ _ _ _ _ => pts_nil) (fun _ _ _ _ _ => (pe_ix (ix_tup : IxR _ (rIxT K)) (pv 2) pe_int (fun _ _ => rfl)))) (pa_cons (pv 1) pa_nil)))), ?_⟩
    obtain ⟨PA, RA, as, bs, h1, h2, h3, h4, h5⟩ := net.ex
    refine ⟨_, rfl, n, _, rfl, get_pts h1, PA, rfl, ⟨_, SqL.of h2⟩, fun D nD => ?_⟩
    refine lc_it walk_list (fun i H1 => Same H H1 ∧ H1 D = some (.lst (((namesOf ps).take i).map V.str))) ⟨same_new nD, upd_same⟩ (fun i H1 _ z => SqL.of (z.1 _ _ h2)) ?_ ?_
    · rintro i y H1 H2 hi ⟨s1, hD⟩ ⟨rfl, hy⟩
      have hi' : i < as.length := by rw [List.length_map] at hi; exact hi
      have hip : i < ps.length := by rw [← h4.1]; exact hi'
      obtain rfl : V.ref as[i] = y := by
        rw [List.getElem?_map, List.getElem?_eq_getElem hi'] at hy
        exact Option.some.inj hy
      have pa : H as[i] = some (.tup [.str ps[i].1, .int ps[i].2.1, .int ps[i].2.2]) := h4.2 i _ _ (List.getElem?_eq_getElem hi') (List.getElem?_eq_getElem hip)
      refine ⟨rfl, _, rfl, as[i], _, 0, _, rfl, rfl, SqT.of (s1 _ _ pa), rfl, ?_⟩
      refine ⟨_, hD, small1000 (by rw [List.length_map, List.length_take]; omega), fun b o z => by rw [upd_ne (ne_of_none z nD)]; exact s1 b o z, ?_⟩
      rw [upd_same, List.take_succ, show (namesOf ps)[i]? = some ps[i].1 by rw [List.getElem?_map, List.getElem?_eq_getElem hip]; rfl, List.map_append]
      rfl
    · rintro H1 ⟨s1, hD⟩
      rw [List.take_of_length_le (by rw [List.length_map, List.length_map, h4.1]; exact Nat.le_refl _)] at hD
      obtain ⟨hi, e⟩ := List.getElem?_eq_some_iff.mp ix
      refine ⟨.inl ⟨rfl, _, SqL.of hD⟩, _, rfl, D, _, _, i, .str x, rfl, rfl, SqL.of hD, rfl, flat_strs _, by rw [List.getElem?_map, ix]; rfl, eqV_str.mpr rfl, fun m z hm hz => ?_, k H1 s1⟩
      rw [List.getElem?_map] at hz
      cases em : (namesOf ps)[m]? with
      | none => rw [em] at hz; cases hz
      | some y =>
        rw [em] at hz
        cases hz
        cases e2 : eqV (V.str y) (V.str x) with
        | false => rfl
        | true =>
          have := eqV_str.mp e2
          subst this
          exact absurd (name_uniq nd em ix) (by omega)
theorem scClockOf : FnScope ["net", "name", "point"] ["net", "name"] (defScope sClockOf) := ⟨rfl, rfl, rfl, by decide +kernel, rfl, by decide +kernel, by decide +kernel⟩
theorem ok_clockOf (F : Fun K "_law_clock_of" "_law_clock_of" sClockOf f fd) (cPlace : Cb P w K mg base 1 "_law_place" spPlace) : FnG P w K mg base 2 f fd ["net", "name"] spClockOf := by
  refine okG F scClockOf (fun vs H Q E h => ?_) (fun cdv A outer s H vs Q E hg hr h => ?_)
  · obtain ⟨n, ps, rs, i, p, rfl, _⟩ := h
    rfl
  · obtain ⟨n, ps, rs, i, p, rfl, net, nd, few, ix, k⟩ := h
    have hu := hu_of hr
    refine ⟨_, (pss_cons (ps_set (i := 2) scClockOf.nd rfl (.inl rfl) (pe_ix ix_list (pe_dget hu (pv 0) pe_str (fun _ _ => rfl)) (pe_k cPlace hg hr (by decide) (by rfl) (pa_cons (pv 0) (pa_cons (pv 1) pa_nil))) (fun _ _ => rfl)))
      (pss_one (ps_ret (pe_tup (pa_cons (pe_ix ix_tup (pv 2) pe_int (fun _ _ => rfl)) (pa_cons (pe_ix ix_tup (pv 2) pe_int (fun _ _ => rfl)) pa_nil)))))), ?_⟩
    obtain ⟨PA, RA, as, bs, h1, h2, h3, h4, h5⟩ := net.ex
    obtain ⟨hip, e⟩ := List.getElem?_eq_some_iff.mp ix
    have hi' : i < as.length := by rw [h4.1]; exact hip
    refine ⟨_, rfl, n, _, rfl, get_pts h1, _, rfl, _, rfl, n, ps, rs, i, p.1, rfl, net, nd, few, by rw [List.getElem?_map, ix]; rfl, fun H1 s1 => ?_⟩
    have pa : H as[i] = some (.tup [.str p.1, .int p.2.1, .int p.2.2]) := h4.2 i _ _ (List.getElem?_eq_getElem hi') ix
    refine ⟨PA, _, _, .ref as[i], rfl, rfl, SqL.of (s1 _ _ h2), atN (by rw [List.getElem?_map, List.getElem?_eq_getElem hi']; rfl), ?_⟩
    refine ⟨_, rfl, as[i], _, 1, _, rfl, rfl, SqT.of (s1 _ _ pa), rfl, _, rfl, as[i], _, 2, _, rfl, rfl, SqT.of (s1 _ _ pa), rfl, (by show 2 ≤ sizeLine; decide), fun t nt => ?_⟩
    exact k t _ (s1.trans (same_new nt)) upd_same
end
end K07
namespace K07
open PySem PySem.Spec L2 Rt
open PyProof.Rows hiding St
/-- the first number of times that comes out -/
theorem first_times {a s j : Nat} (ha : 0 < a) (no : ∀ i, i < j → ¬ s ∣ a * (i + 1)) (yes : s ∣ a * (j + 1)) : a * (j + 1) = Nat.lcm a s := by
  obtain ⟨q, hq⟩ := Nat.dvd_lcm_left a s
  have h1 : s ∣ a * q := hq ▸ Nat.dvd_lcm_right a s
  have h2 : Nat.lcm a s ∣ a * (j + 1) := Nat.lcm_dvd (Nat.dvd_mul_right a _) yes
  have h3 : a * q ≤ a * (j + 1) := hq ▸ Nat.le_of_dvd (Nat.mul_pos ha (Nat.succ_pos j)) h2
  have h4 : q ≤ j + 1 := Nat.le_of_mul_le_mul_left h3 ha
  rw [hq]
  rcases Nat.lt_or_ge q (j + 1) with lt | ge
  · cases q with
    | zero =>
      have z : a * (j + 1) = 0 := Nat.eq_zero_of_zero_dvd (by have := h2; rwa [hq, Nat.mul_zero] at this)
      exact absurd z (Nat.ne_of_gt (Nat.mul_pos ha (Nat.succ_pos j)))
    | succ i => exact absurd h1 (no i (by omega))
  · rw [show q = j + 1 by omega]
theorem mod_dvd (a j s : Nat) : (((a : Int) * ((1 : Int) + (j : Int))) % (s : Int) = 0) ↔ s ∣ a * (j + 1) := by
  rw [show (a : Int) * ((1 : Int) + (j : Int)) = ((a * (j + 1) : Nat) : Int) by rw [Int.natCast_mul]; congr 1; omega, ← Int.natCast_dvd_natCast, Int.dvd_iff_emod_eq_zero]
def spPeriod : Sp := fun vs H Q _ => ∃ (n : Addr) (ps : List Pt) (rs : List Rl) (M : Nat), vs = [.ref n] ∧ LNet H n ps rs ∧ (∀ p, p ∈ ps → 1 ≤ p.2.2 ∧ p.2.2 ≤ 60 ∧ p.2.2.toNat ∣ M) ∧ 0 < M ∧ M < 2 ^ 60 ∧ ∀ H', Same H H' → Q (.int (lcmOf ps)) H'
section
variable {P : Program} {w : World} {K : PySem.W.Frag} {mg : Str → Option Value} {base : Heap} {f : Addr} {fd : FuncData}
theorem scPeriod : FnScope ["net", "found", "name", "first", "step", "k"] ["net"] (defScope sPeriod) := ⟨rfl, rfl, rfl, by decide +kernel, rfl, by decide +kernel, by decide +kernel⟩
theorem ok_period (F : Fun K "_law_period" "_law_period" sPeriod f fd) (T : Lw mg) : FnG P w K mg base 1 f fd ["net"] spPeriod := by
  refine okG F scPeriod (fun vs H Q E h => ?_) (fun cdv A outer s H vs Q E hg hr h => ?_)
  · obtain ⟨n, ps, rs, M, rfl, _⟩ := h
    rfl
  · obtain ⟨n, ps, rs, M, rfl, net, dv, m0, m1, k⟩ := h
    have hu := hu_of hr
    refine ⟨_, (pss_cons (ps_set (i := 1) scPeriod.nd rfl (.inr rfl) pe_int)
      (pss_cons (ps_for PassesOwn.never rfl (pi_list (pe_dget hu (pv 0) pe_str (fun _ _ => rfl))) (pg_tup (by rfl) (pgs_cons (pg_name (i := 2) scPeriod.nd rfl (.inl rfl)) (pgs_cons (pg_name (i := 3) scPeriod.nd rfl (.inl rfl)) (pgs_cons (pg_name (i := 4) scPeriod.nd rfl (.inr rfl)) pgs_nil))))
        (pss_one (ps_set (i := 1) scPeriod.nd rfl (.inr rfl) (pe_ix ix_list (pe_lc (own := [("k", 5)]) (by rfl) scPeriod.nd (pi_range2 (by rfl) T.zrange (pa_cons pe_int (pa_cons (pe_op op_add (pv 4) pe_int) pa_nil))) (blkOk_by (N := ["net", "found", "name", "first", "step", "k"]) (sc := defScope sPeriod) (by decide +kernel)) (fun _ _ _ _ _ => (pg_name (i := 5) scPeriod.nd rfl (.inl rfl))) (fun _ _ _ _ _ => (pts_one (pt_cmpR op_eq (pe_op op_mod (pe_callTy call_int1 (by rfl) T.zint (by decide +kernel) (pa_cons (pe_op op_mul (pv 1) (pv 5)) pa_nil)) (pv 4)) pe_int (nomark _)))) (fun _ _ _ _ _ => (pe_op op_mul (pv 1) (pv 5)))) pe_int (fun _ _ => rfl)))))
      (pss_one (ps_ret (pv 1))))), ?_⟩
    obtain ⟨PA, RA, as, bs, h1, h2, h3, h4, h5⟩ := net.ex
    have dvd : ∀ i, lcmOf (ps.take i) ∣ M := fun i => lcm_dvd (ps.take i) 1 (Nat.one_dvd M) fun p m => (dv p (List.mem_of_mem_take m)).2.2
    have below : ∀ i, lcmOf (ps.take i) < 2 ^ 60 := fun i => Nat.lt_of_le_of_lt (Nat.le_of_dvd m0 (dvd i)) m1
    have pos : ∀ i, 0 < lcmOf (ps.take i) := fun i => Nat.pos_of_dvd_of_pos (dvd i) m0
    refine ⟨_, rfl, n, _, rfl, get_pts h1, PA, rfl, ⟨_, SqL.of h2⟩, ?_⟩
    refine for_it walk_list (fun i σ H1 => ∃ v2 v3 v4 v5 : Option V, σ = [some (.ref n), some (.int (lcmOf (ps.take i) : Nat)), v2, v3, v4, v5] ∧ Same H H1) ⟨_, _, _, _, rfl, Same.refl _⟩ (fun i σ H1 _ ⟨_, _, _, _, _, s1⟩ => SqL.of (s1 _ _ h2)) ?_ ?_
    · rintro i y σ H1 H2 hi ⟨v2, v3, v4, v5, rfl, s1⟩ ⟨rfl, hy⟩
      have hi' : i < as.length := by rw [List.length_map] at hi; exact hi
      have hip : i < ps.length := by rw [← h4.1]; exact hi'
      obtain rfl : V.ref as[i] = y := by
        rw [List.getElem?_map, List.getElem?_eq_getElem hi'] at hy
        exact Option.some.inj hy
      have pa : H as[i] = some (.tup [.str ps[i].1, .int ps[i].2.1, .int ps[i].2.2]) := h4.2 i _ _ (List.getElem?_eq_getElem hi') (List.getElem?_eq_getElem hip)
      obtain ⟨d1, d60, d2⟩ := dv _ (List.getElem_mem hip)
      obtain ⟨st, est⟩ : ∃ st : Nat, ps[i].2.2 = (st : Int) := ⟨ps[i].2.2.toNat, (Int.toNat_of_nonneg (by omega)).symm⟩
      have est2 : ps[i].2.2.toNat = st := by rw [est]; exact Int.toNat_natCast st
      rw [est] at pa d1 d60
      refine ⟨as[i], _, rfl, SqT.of (s1 _ _ pa), rfl, _, _, rfl, _, _, rfl, _, _, rfl, rfl, ?_⟩
      have fp := pos i
      have fb := below i
      have step : lcmOf (ps.take (i + 1)) = Nat.lcm (lcmOf (ps.take i)) st := by rw [lcm_step ps i hip, est2]
      rw [step]
      generalize lcmOf (ps.take i) = a at fp fb
      refine ⟨_, rfl, _, _, rfl, rfl, 1, (st : Int) + 1, rfl, ⟨by omega, by omega, by omega, by omega⟩, fun D nD => ?_⟩
      have est3 : ((st : Int) + 1 - 1).toNat = st := by omega
      rw [est3]
      refine lc_range (lo := 1) (n := st) (fun i H3 => Same H2 H3 ∧ ∃ acc : List V, H3 D = some (.lst acc) ∧ acc.length ≤ i ∧ (((∀ j, j < i → ¬ st ∣ a * (j + 1)) ∧ acc = []) ∨ ∃ j r, (∀ m, m < j → ¬ st ∣ a * (m + 1)) ∧ st ∣ a * (j + 1) ∧ acc = V.int ((a * (j + 1) : Nat) : Int) :: r))
        ⟨same_new nD, [], upd_same, Nat.le_refl _, .inl ⟨fun j h => absurd h (by omega), rfl⟩⟩ ?_ ?_
      · rintro j H3 hj ⟨s3, acc, hD, la, inv⟩
        refine ⟨rfl, _, rfl, _, rfl, _, _, rfl, rfl, .inl ⟨by omega, by omega⟩, .inl ⟨_, rfl, _, rfl, _, _, rfl, rfl, by omega, rfl, ?_⟩⟩
        refine ⟨_, rfl, ?_⟩
        have ev : (a : Int) * (1 + (j : Int)) = ((a * (j + 1) : Nat) : Int) := by
          rw [Int.natCast_mul]
          congr 1
          omega
        rw [dec_V]
        by_cases d : st ∣ a * (j + 1)
        · rw [decide_eq_true ((mod_dvd a j st).mpr d)]
          refine iteT ⟨_, rfl, _, rfl, _, _, rfl, rfl, .inl ⟨by omega, by omega⟩, acc, hD, small1000 (by omega), fun b o z => by rw [upd_ne (ne_of_none z nD)]; exact s3 b o z, _, upd_same, by rw [List.length_append]; exact Nat.succ_le_succ la, .inr ?_⟩
          rcases inv with ⟨no, rfl⟩ | ⟨j0, r, no, yes, rfl⟩
          · exact ⟨j, [], no, d, congrArg (fun z => [V.int z]) ev⟩
          · exact ⟨j0, r ++ [_], no, yes, rfl⟩
        · rw [decide_eq_false (fun z => d ((mod_dvd a j st).mp z))]
          refine iteF ⟨s3, acc, hD, by omega, ?_⟩
          rcases inv with ⟨no, e⟩ | z
          · refine .inl ⟨fun m hm => ?_, e⟩
            rcases Nat.lt_or_eq_of_le (Nat.le_of_lt_succ hm) with l2 | rfl
            · exact no m l2
            · exact d
          · exact .inr z
      · rintro H3 ⟨s3, acc, hD, la, inv⟩
        rcases inv with ⟨no, e⟩ | ⟨j, r, no, yes, rfl⟩
        · exact absurd (by rw [show st - 1 + 1 = st by omega]; exact Nat.dvd_mul_left st a) (no (st - 1) (by omega))
        refine ⟨D, _, 0, _, rfl, rfl, SqL.of hD, atI_0, ?_⟩
        rw [← first_times fp no yes]
        exact ⟨_, _, _, _, rfl, s1.trans s3⟩
    · rintro σ H1 ⟨v2, v3, v4, v5, rfl, s1⟩
      rw [List.take_of_length_le (by rw [List.length_map, h4.1]; exact Nat.le_refl _)]
      exact ⟨_, rfl, k H1 s1⟩
end
end K07
namespace K07
open PySem PySem.Spec L2 Rt
open PyProof.Rows hiding St
abbrev OkS (ss : List Int) : Prop := ss ≠ [] ∧ ss.length < 100 ∧ ∀ s, s ∈ ss → 1 ≤ s ∧ s ≤ 12 ∧ s.toNat ∣ 420
def StepMenu (M : Hp) (xs : List V) : Prop := ∀ v, v ∈ xs → ∃ p ss, v = .ref p ∧ M p = some (.lst (ss.map V.int)) ∧ OkS ss
theorem stN {M : Hp} : StepMenu M [] := fun _ h => nomatch h
theorem stC {M : Hp} {p : Addr} {xs : List V} (ss : List Int) (h : M p = some (.lst (ss.map V.int))) (ok : OkS ss) (r : StepMenu M xs) : StepMenu M (.ref p :: xs) := fun v m => by
  rcases List.mem_cons.mp m with e | m
  · subst e
    exact ⟨p, ss, rfl, h, ok⟩
  · exact r v m
def spSteps : Sp := fun vs H Q _ => ∃ (d c : Addr), vs = [.ref d] ∧ Src H d c ∧ ∀ (p : Addr) (ss : List Int) (H' : Hp), mask d c H' p = some (.lst (ss.map V.int)) → OkS ss → Src H' d c → Keep d c H H' → Q (.ref p) H'
section
variable {P : Program} {w : World} {K : PySem.W.Frag} {mg : Str → Option Value} {base : Heap} {f : Addr} {fd : FuncData}
theorem scSteps : FnScope ["source"] ["source"] (defScope sSteps) := ⟨rfl, rfl, rfl, by decide +kernel, rfl, by decide +kernel, by decide +kernel⟩
theorem ok_steps (F : Fun K "_law_steps" "_law_steps" sSteps f fd) (cO : Cb P w K mg base 2 "_law_of" spOf) : FnG P w K mg base 3 f fd ["source"] spSteps := by
  refine okG F scSteps (fun vs H Q E h => ?_) (fun cdv A outer s H vs Q E hg hr h => ?_)
  · obtain ⟨d, c, rfl, _⟩ := h
    rfl
  · obtain ⟨d, c, rfl, S, k⟩ := h
    refine ⟨_, (pss_one (ps_ret (pe_k cO hg hr (by decide) (by rfl) (pa_cons (pv 0) (pa_cons (pe_lst (pa_cons (pe_lst (pa_cons pe_int pa_nil)) (pa_cons (pe_lst (pa_cons pe_int (pa_cons pe_int (pa_cons pe_int pa_nil)))) (pa_cons (pe_lst (pa_cons pe_int (pa_cons pe_int (pa_cons pe_int pa_nil)))) (pa_cons (pe_lst (pa_cons pe_int (pa_cons pe_int (pa_cons pe_int pa_nil)))) (pa_cons (pe_lst (pa_cons pe_int (pa_cons pe_int (pa_cons pe_int pa_nil)))) (pa_cons (pe_lst (pa_cons pe_int (pa_cons pe_int (pa_cons pe_int pa_nil)))) (pa_cons (pe_lst (pa_cons pe_int (pa_cons pe_int (pa_cons pe_int pa_nil)))) (pa_cons (pe_lst (pa_cons pe_int (pa_cons pe_int pa_nil))) pa_nil))))))))) pa_nil))))), ?_⟩
    refine ⟨_, rfl, ?_⟩
    refine ⟨(by show 1 ≤ sizeLine; decide), fun l0 nl0 => ?_⟩
    have al0 := S.away nl0
    have Sl0 := S.new (o := .lst [.int 1]) nl0
    have gl0 := mask_new (d := d) (c := c) (o := .lst [.int 1]) nl0
    have kl0 := Keep.refl.new (d := d) (c := c) (o := .lst [.int 1]) nl0
    have fl0 := mask_at (d := d) (c := c) al0 (upd_same (H := H) (a := l0) (o := .lst [.int 1]))
    revert Sl0 gl0 kl0 fl0
    generalize upd H l0 (.lst [.int 1]) = hl0
    intro Sl0 gl0 kl0 fl0
    refine ⟨(by show 3 ≤ sizeLine; decide), fun l1 nl1 => ?_⟩
    have al1 := Sl0.away nl1
    have Sl1 := Sl0.new (o := .lst [.int 1, .int 2, .int 3]) nl1
    have gl1 := mask_new (d := d) (c := c) (o := .lst [.int 1, .int 2, .int 3]) nl1
    have kl1 := Keep.refl.new (d := d) (c := c) (o := .lst [.int 1, .int 2, .int 3]) nl1
    have fl1 := mask_at (d := d) (c := c) al1 (upd_same (H := hl0) (a := l1) (o := .lst [.int 1, .int 2, .int 3]))
    revert Sl1 gl1 kl1 fl1
    generalize upd hl0 l1 (.lst [.int 1, .int 2, .int 3]) = hl1
    intro Sl1 gl1 kl1 fl1
    refine ⟨(by show 3 ≤ sizeLine; decide), fun l2 nl2 => ?_⟩
    have al2 := Sl1.away nl2
    have Sl2 := Sl1.new (o := .lst [.int 1, .int 2, .int 4]) nl2
    have gl2 := mask_new (d := d) (c := c) (o := .lst [.int 1, .int 2, .int 4]) nl2
    have kl2 := Keep.refl.new (d := d) (c := c) (o := .lst [.int 1, .int 2, .int 4]) nl2
    have fl2 := mask_at (d := d) (c := c) al2 (upd_same (H := hl1) (a := l2) (o := .lst [.int 1, .int 2, .int 4]))
    revert Sl2 gl2 kl2 fl2
    generalize upd hl1 l2 (.lst [.int 1, .int 2, .int 4]) = hl2
    intro Sl2 gl2 kl2 fl2
    refine ⟨(by show 3 ≤ sizeLine; decide), fun l3 nl3 => ?_⟩
    have al3 := Sl2.away nl3
    have Sl3 := Sl2.new (o := .lst [.int 2, .int 3, .int 6]) nl3
    have gl3 := mask_new (d := d) (c := c) (o := .lst [.int 2, .int 3, .int 6]) nl3
    have kl3 := Keep.refl.new (d := d) (c := c) (o := .lst [.int 2, .int 3, .int 6]) nl3
    have fl3 := mask_at (d := d) (c := c) al3 (upd_same (H := hl2) (a := l3) (o := .lst [.int 2, .int 3, .int 6]))
    revert Sl3 gl3 kl3 fl3
    generalize upd hl2 l3 (.lst [.int 2, .int 3, .int 6]) = hl3
    intro Sl3 gl3 kl3 fl3
    refine ⟨(by show 3 ≤ sizeLine; decide), fun l4 nl4 => ?_⟩
    have al4 := Sl3.away nl4
    have Sl4 := Sl3.new (o := .lst [.int 3, .int 4, .int 12]) nl4
    have gl4 := mask_new (d := d) (c := c) (o := .lst [.int 3, .int 4, .int 12]) nl4
    have kl4 := Keep.refl.new (d := d) (c := c) (o := .lst [.int 3, .int 4, .int 12]) nl4
    have fl4 := mask_at (d := d) (c := c) al4 (upd_same (H := hl3) (a := l4) (o := .lst [.int 3, .int 4, .int 12]))
    revert Sl4 gl4 kl4 fl4
    generalize upd hl3 l4 (.lst [.int 3, .int 4, .int 12]) = hl4
    intro Sl4 gl4 kl4 fl4
    refine ⟨(by show 3 ≤ sizeLine; decide), fun l5 nl5 => ?_⟩
    have al5 := Sl4.away nl5
    have Sl5 := Sl4.new (o := .lst [.int 1, .int 5, .int 10]) nl5
    have gl5 := mask_new (d := d) (c := c) (o := .lst [.int 1, .int 5, .int 10]) nl5
    have kl5 := Keep.refl.new (d := d) (c := c) (o := .lst [.int 1, .int 5, .int 10]) nl5
    have fl5 := mask_at (d := d) (c := c) al5 (upd_same (H := hl4) (a := l5) (o := .lst [.int 1, .int 5, .int 10]))
    revert Sl5 gl5 kl5 fl5
    generalize upd hl4 l5 (.lst [.int 1, .int 5, .int 10]) = hl5
    intro Sl5 gl5 kl5 fl5
    refine ⟨(by show 3 ≤ sizeLine; decide), fun l6 nl6 => ?_⟩
    have al6 := Sl5.away nl6
    have Sl6 := Sl5.new (o := .lst [.int 7, .int 7, .int 1]) nl6
    have gl6 := mask_new (d := d) (c := c) (o := .lst [.int 7, .int 7, .int 1]) nl6
    have kl6 := Keep.refl.new (d := d) (c := c) (o := .lst [.int 7, .int 7, .int 1]) nl6
    have fl6 := mask_at (d := d) (c := c) al6 (upd_same (H := hl5) (a := l6) (o := .lst [.int 7, .int 7, .int 1]))
    revert Sl6 gl6 kl6 fl6
    generalize upd hl5 l6 (.lst [.int 7, .int 7, .int 1]) = hl6
    intro Sl6 gl6 kl6 fl6
    refine ⟨(by show 2 ≤ sizeLine; decide), fun l7 nl7 => ?_⟩
    have al7 := Sl6.away nl7
    have Sl7 := Sl6.new (o := .lst [.int 4, .int 6]) nl7
    have gl7 := mask_new (d := d) (c := c) (o := .lst [.int 4, .int 6]) nl7
    have kl7 := Keep.refl.new (d := d) (c := c) (o := .lst [.int 4, .int 6]) nl7
    have fl7 := mask_at (d := d) (c := c) al7 (upd_same (H := hl6) (a := l7) (o := .lst [.int 4, .int 6]))
    revert Sl7 gl7 kl7 fl7
    generalize upd hl6 l7 (.lst [.int 4, .int 6]) = hl7
    intro Sl7 gl7 kl7 fl7
    have menu : StepMenu (mask d c hl7) [.ref l0, .ref l1, .ref l2, .ref l3, .ref l4, .ref l5, .ref l6, .ref l7] := (stC [1] (gl7 _ _ (gl6 _ _ (gl5 _ _ (gl4 _ _ (gl3 _ _ (gl2 _ _ (gl1 _ _ fl0))))))) (by decide) (stC [1, 2, 3] (gl7 _ _ (gl6 _ _ (gl5 _ _ (gl4 _ _ (gl3 _ _ (gl2 _ _ fl1)))))) (by decide) (stC [1, 2, 4] (gl7 _ _ (gl6 _ _ (gl5 _ _ (gl4 _ _ (gl3 _ _ fl2))))) (by decide) (stC [2, 3, 6] (gl7 _ _ (gl6 _ _ (gl5 _ _ (gl4 _ _ fl3)))) (by decide) (stC [3, 4, 12] (gl7 _ _ (gl6 _ _ (gl5 _ _ fl4))) (by decide) (stC [1, 5, 10] (gl7 _ _ (gl6 _ _ fl5)) (by decide) (stC [7, 7, 1] (gl7 _ _ fl6) (by decide) (stC [4, 6] fl7 (by decide) stN))))))))
    have kk := (((((((kl0.trans kl1).trans kl2).trans kl3).trans kl4).trans kl5).trans kl6).trans kl7)
    refine ⟨(by show 8 ≤ sizeLine; decide), fun p np => ?_⟩
    have ap := Sl7.away np
    refine ⟨d, c, p, _, rfl, Sl7.new np, upd_same, ap.2, (by show 0 < 8; decide), (by show 8 < 1000000000; decide), fun i v H' hi S' kp => ?_⟩
    obtain ⟨q, ss, rfl, hq, ok⟩ := menu v (List.mem_of_getElem? hi)
    exact k q ss H' (mask_keep kp _ _ (mask_new np _ _ hq)) ok S' ((kk.new np).trans kp)
end
end K07
namespace K07
open PySem PySem.Spec L2 Rt
open PyProof.Rows hiding St
abbrev sLNet : Stmt := top 37
theorem mask_but {d c D : Addr} {o : HO} {H : Hp} : Sbut D (mask d c H) (mask d c (upd H D o)) := fun b u e n => by
  unfold mask at e ⊢
  split at e
  · cases e
  · rename_i z
    rw [if_neg z, upd_ne n]
    exact e
theorem Row.snoc {α : Type} {f : α → HO} {H : Hp} {as : List Addr} {ps : List α} {a : Addr} {p : α} (r : Row f H as ps) (h : H a = some (f p)) : Row f H (as ++ [a]) (ps ++ [p]) := by
  refine ⟨by rw [List.length_append, List.length_append, r.1]; rfl, fun i b q h1 h2 => ?_⟩
  rcases Nat.lt_or_ge i as.length with lt | ge
  · rw [List.getElem?_append_left lt] at h1
    rw [List.getElem?_append_left (by rw [← r.1]; exact lt)] at h2
    exact r.2 i b q h1 h2
  · have e : i = as.length := by
      have := (List.getElem?_eq_some_iff.mp h1).1
      rw [List.length_append] at this
      simp at this
      omega
    rw [e, List.getElem?_append_right (Nat.le_refl _), Nat.sub_self] at h1
    rw [e, r.1, List.getElem?_append_right (Nat.le_refl _), Nat.sub_self] at h2
    cases h1
    cases h2
    exact h
theorem far_small {z : Int} (h : z ∈ ([6, 12, 25] : List Int)) : 6 ≤ z ∧ z ≤ 25 := by
  simp only [List.mem_cons, List.not_mem_nil, or_false] at h
  rcases h with e | e | e <;> subst e <;> decide
theorem less_small {z : Int} (h : z ∈ ([0, 0, 3, 9] : List Int)) : 0 ≤ z ∧ z ≤ 9 := by
  simp only [List.mem_cons, List.not_mem_nil, or_false] at h
  rcases h with e | e | e | e <;> subst e <;> decide
theorem str_at {ws : List Str} {i : Nat} {v : V} (h : (ws.map V.str)[i]? = some v) : ∃ x, v = .str x ∧ x ∈ ws := by
  rw [List.getElem?_map] at h
  cases e : ws[i]? with
  | none => rw [e] at h; cases h
  | some x =>
    rw [e] at h
    exact ⟨x, (Option.some.inj h).symm, List.mem_of_getElem? e⟩
theorem merge2 {a b : Str} {x y : V} (h : ¬ a = b) : mergeK [] [((Sum.inr a : Key), x), (Sum.inr b, y)] = [(Sum.inr a, x), (Sum.inr b, y)] := by
  have h1 := ne_inr h
  unfold mergeK putK
  simp [h1]
structure PtD (p : Pt) : Prop where
  s1 : 1 ≤ p.2.2
  s12 : p.2.2 ≤ 12
  dv : p.2.2.toNat ∣ 420
  f1 : -12 ≤ p.2.1
  f2 : p.2.1 ≤ 12
structure RlD (r : Rl) : Prop where
  l1 : -40 ≤ r.2.2
  l2 : r.2.2 ≤ 40
structure Drawn (ps : List Pt) (rs : List Rl) (most ties : Nat) : Prop where
  good : Good ps rs
  p0 : 0 < ps.length
  pm : ps.length ≤ most
  rm : rs.length ≤ ties
  pt : ∀ p, p ∈ ps → PtD p
  rl : ∀ r, r ∈ rs → RlD r
def spNet : Sp := fun vs H Q _ => ∃ (d c : Addr) (most ties : Nat), vs = [.ref d, .int most, .int ties] ∧ Src H d c ∧ 1 ≤ most ∧ most ≤ 50 ∧ ties ≤ 50 ∧
  ∀ (n : Addr) (ps : List Pt) (rs : List Rl) (H' : Hp), LNet (mask d c H') n ps rs → Drawn ps rs most ties → Src H' d c → Keep d c H H' → Q (.ref n) H'
section
variable {P : Program} {w : World} {K : PySem.W.Frag} {mg : Str → Option Value} {base : Heap} {f : Addr} {fd : FuncData}
theorem scNet : FnScope ["source", "most", "ties", "names", "steps", "far", "points", "rules", "lap", "start", "end", "name"] ["source", "most", "ties"] (defScope sLNet) := ⟨rfl, rfl, rfl, by decide +kernel, rfl, by decide +kernel, by decide +kernel⟩
theorem ok_net (F : Fun K "_law_net" "_law_net" sLNet f fd) (T : Lw mg) (cP : Cb P w K mg base 1 "_law_pick" spPick) (cO : Cb P w K mg base 2 "_law_of" spOf) (cN : Cb P w K mg base 2 "_law_names" spNames) (cS : Cb P w K mg base 3 "_law_steps" spSteps) : FnG P w K mg base 4 f fd ["source", "most", "ties"] spNet := by
  refine okG F scNet (fun vs H Q E h => ?_) (fun cdv A outer s H vs Q E hg hr h => ?_)
  · obtain ⟨d, c, m, t, rfl, _⟩ := h
    rfl
  · obtain ⟨d, c, m, t, rfl, S, hm1, hm2, ht, k⟩ := h
    refine ⟨_, (pss_cons (ps_asg (pe_tup (pa_cons (pe_k cN hg hr (by decide) (by rfl) (pa_cons (pv 0) (pa_cons (pe_op op_add pe_int (pe_k cP hg hr (by decide) (by rfl) (pa_cons (pv 0) (pa_cons (pv 1) pa_nil)))) pa_nil))) (pa_cons (pe_k cS hg hr (by decide) (by rfl) (pa_cons (pv 0) pa_nil)) pa_nil))) (pg_tup (by rfl) (pgs_cons (pg_name (i := 3) scNet.nd rfl (.inl rfl)) (pgs_cons (pg_name (i := 4) scNet.nd rfl (.inr rfl)) pgs_nil))))
      (pss_cons (ps_set (i := 5) scNet.nd rfl (.inl rfl) (pe_k cO hg hr (by decide) (by rfl) (pa_cons (pv 0) (pa_cons (pe_lst (pa_cons pe_int (pa_cons pe_int (pa_cons pe_int pa_nil)))) pa_nil))))
      (pss_cons (ps_setLc (i := 6) (own := [("name", 11)]) rfl scNet.nd rfl rfl (sw_true rfl rfl rfl (by decide +kernel)) (pi_list (pv 3)) (blkOk_by (N := ["source", "most", "ties", "names", "steps", "far", "points", "rules", "lap", "start", "end", "name"]) (sc := defScope sLNet) (by decide +kernel)) (fun _ _ _ _ _ => (pg_name (i := 11) scNet.nd rfl (.inl rfl))) (fun _ _ _ _ _ => pts_nil) (fun _ _ _ _ _ => (pe_tup (pa_cons (pv 11) (pa_cons (pe_op op_sub (pe_k cP hg hr (by decide) (by rfl) (pa_cons (pv 0) (pa_cons pe_int pa_nil))) pe_int) (pa_cons (pe_k cO hg hr (by decide) (by rfl) (pa_cons (pv 0) (pa_cons (pv 4) pa_nil))) pa_nil))))))
      (pss_cons (ps_set (i := 7) scNet.nd rfl (.inl rfl) (pe_lst pa_nil))
      (pss_cons (ps_for PassesOwn.never rfl (pi_range1 (by rfl) T.zrange (pa_cons (pe_k cP hg hr (by decide) (by rfl) (pa_cons (pv 0) (pa_cons (pe_op op_add (pv 2) pe_int) pa_nil))) pa_nil)) (pg_name (i := 8) scNet.nd rfl (.inl rfl))
        (pss_cons (ps_par (i := 9) (j := 10) rfl scNet.nd rfl rfl (by decide) rfl rfl (pa_cons (pe_k cO hg hr (by decide) (by rfl) (pa_cons (pv 0) (pa_cons (pv 3) pa_nil))) (pa_cons (pe_k cO hg hr (by decide) (by rfl) (pa_cons (pv 0) (pa_cons (pv 3) pa_nil))) pa_nil)) (by rfl))
        (pss_one (ps_expr (pe_bm PySem.F.plainAttrs_list PySem.F.slot_list_append PySem.F.type_list_append mt_append (pv 7) (pa_cons (pe_tup (pa_cons (pv 9) (pa_cons (pv 10) (pa_cons (pe_op op_sub (pe_op op_sub (pe_k cP hg hr (by decide) (by rfl) (pa_cons (pv 0) (pa_cons (pe_op op_mul pe_int (pv 5)) pa_nil))) (pv 5)) (pe_k cO hg hr (by decide) (by rfl) (pa_cons (pv 0) (pa_cons (pe_lst (pa_cons pe_int (pa_cons pe_int (pa_cons pe_int (pa_cons pe_int pa_nil))))) pa_nil)))) pa_nil)))) pa_nil))))))
      (pss_one (ps_ret (pe_disp (pps_cons pe_str (pv 6) (pps_cons pe_str (pv 7) pps_nil)) (by rfl) (by rfl) (fun z => by cases z) (by decide))))))))), ?_⟩
    -- names, steps
    refine ⟨_, rfl, _, rfl, _, rfl, d, c, _, rfl, S, (by omega), fun r H1 r0 r1 S1 k1 => ?_⟩
    have er : ∃ n : Nat, r = (n : Int) := ⟨r.toNat, (Int.toNat_of_nonneg r0).symm⟩
    obtain ⟨n, rfl⟩ := er
    refine ⟨_, _, rfl, rfl, d, c, 1 + n, by rw [Int.natCast_add]; rfl, S1, by omega, fun L ws H2 nL S2 k2 hL lw wok wnd => ?_⟩
    have aL := S1.away nL
    have mL := mask_at aL hL
    refine ⟨_, rfl, d, c, rfl, S2, fun q ss H3 hq okS S3 k3 => ?_⟩
    refine ⟨(by show 2 ≤ sizeLine; decide), fun tu ntu => ?_⟩
    have S4 := S3.new (o := .tup [.ref L, .ref q]) ntu
    refine ⟨tu, _, rfl, SqT.of upd_same, rfl, _, _, rfl, _, _, rfl, rfl, ?_⟩
    -- far
    refine ⟨_, rfl, (by show 3 ≤ sizeLine; decide), fun lf nf => ?_⟩
    refine ⟨d, c, lf, ([6, 12, 25] : List Int).map V.int, rfl, S4.new nf, upd_same, (S4.away nf).2, (by show 0 < 3; decide), (by show 3 < 1000000000; decide), fun j v H5 hv S5 k5 => ?_⟩
    obtain ⟨far, hfar, rfl⟩ := int_at hv
    have bfar : 6 ≤ far ∧ far ≤ 25 := far_small (List.mem_of_getElem? hfar)
    have g5 : Same (mask d c H3) (mask d c H5) := ((mask_new ntu).trans (mask_new nf)).trans (mask_keep k5)
    have mL5 := g5 _ _ ((mask_keep k3) _ _ mL)
    have hq5 := g5 _ _ hq
    have t5 : Keep d c H H5 := (((k1.trans k2).trans k3).new ntu |>.new nf).trans k5
    -- points
    refine ⟨_, rfl, L, rfl, ⟨_, SqL.of (mask_same _ _ mL5)⟩, fun D nD => ?_⟩
    have aD := S5.away nD
    refine lc_it walk_list (fun i H6 => ∃ (as : List Addr) (ps : List Pt), Keep d c H5 H6 ∧ Src H6 d c ∧ mask d c H6 D = some (.lst (as.map V.ref)) ∧ Row ptV (mask d c H6) as ps ∧ namesOf ps = ws.take i ∧ ∀ p, p ∈ ps → PtD p)
      ⟨[], [], Keep.refl.new nD, S5.new nD, mask_at aD upd_same, ⟨rfl, fun i a p h => nomatch h⟩, rfl, fun p h => nomatch h⟩ (fun i H6 _ ⟨_, _, z, _⟩ => SqL.of (mask_same _ _ (mask_keep z _ _ mL5))) ?_ ?_
    · rintro i y H6 H7 hi ⟨as, ps, k6, S6, hD, row, en, okp⟩ ⟨rfl, hy⟩
      have hi' : i < ws.length := by rw [List.length_map] at hi; exact hi
      obtain rfl : V.str ws[i] = y := by
        rw [List.getElem?_map, List.getElem?_eq_getElem hi'] at hy
        exact Option.some.inj hy
      refine ⟨rfl, _, rfl, _, rfl, d, c, _, rfl, S6, (by decide), fun r8 H8 r80 r81 S8 k8 => ?_⟩
      refine ⟨_, _, rfl, rfl, _, rfl, _, rfl, d, c, q, ss.map V.int, rfl, S8, mask_same _ _ ((mask_keep (k6.trans k8)) _ _ hq5), ?_, by rw [List.length_map]; exact List.length_pos_iff.mpr okS.1, by rw [List.length_map]; have := okS.2.1; omega, fun j9 v9 H9 hv9 S9 k9 => ?_⟩
      · intro z
        rw [z] at hq5
        unfold mask at hq5
        rw [if_pos (.inr rfl)] at hq5
        cases hq5
      obtain ⟨st, hst, rfl⟩ := int_at hv9
      obtain ⟨b1, b2, b3⟩ := okS.2.2 st (List.mem_of_getElem? hst)
      refine ⟨(by show 3 ≤ sizeLine; decide), fun tp ntp => ?_⟩
      have atp := S9.away ntp
      have g9 : Same (mask d c H7) (mask d c (upd H9 tp (.tup [.str ws[i], .int (r8 - 12), .int st]))) := (mask_keep (k8.trans k9)).trans (mask_new ntp)
      have hD9 := g9 _ _ hD
      have htp : mask d c (upd H9 tp (.tup [.str ws[i], .int (r8 - 12), .int st])) tp = some (ptV (ws[i], r8 - 12, st)) := mask_at atp upd_same
      have row9 := (row.same g9).snoc htp
      have DD : D ∉ as ++ [tp] := row_not row9 hD9 (fun p z => by cases z)
      refine ⟨as.map V.ref, mask_same _ _ hD9, small1000 ?_, as ++ [tp], ps ++ [(ws[i], r8 - 12, st)], ?_, ?_, ?_, row9.but mask_but DD, ?_, ?_⟩
      · rw [List.length_map, row.1, ← List.length_map (f := fun p : Pt => p.1), show (ps.map fun p => p.1) = ws.take i from en, List.length_take]
        omega
      · exact (((k6.trans k8).trans k9).new ntp).put nD
      · exact (S9.new ntp).put aD
      · refine mask_at aD ?_
        rw [upd_same, List.map_append]
        rfl
      · rw [List.take_succ, List.getElem?_eq_getElem hi', ← en]
        exact List.map_append
      · intro p hp
        rcases List.mem_append.mp hp with h | h
        · exact okp p h
        · cases List.mem_singleton.mp h
          exact ⟨b1, b2, b3, by show -12 ≤ r8 - 12; omega, by show r8 - 12 ≤ 12; omega⟩
    · rintro H6 ⟨as, ps, k6, S6, hD, row, en, okp⟩
      have e1 : ws.take (ws.map V.str).length = ws := List.take_of_length_le (by rw [List.length_map]; exact Nat.le_refl _)
      rw [e1] at en
      have lps : ps.length = 1 + n := by rw [← lw, ← en, List.length_map]
      have nL0 : L ≠ c := aL.2
      refine ⟨(by show 0 ≤ sizeLine; decide), fun R nR => ?_⟩
      have aR := S6.away nR
      have S7 := S6.new (o := .lst []) nR
      refine ⟨_, rfl, _, rfl, _, _, rfl, rfl, d, c, _, rfl, S7, by omega, fun rr H8 q0 q1 S8 k8 => ⟨rr, rfl, by omega, by omega, ?_⟩⟩
      have mR8 : mask d c H8 R = some (.lst []) := mask_keep k8 _ _ (mask_at aR upd_same)
      have k68 : Keep d c H6 H8 := (Keep.refl.new nR).trans k8
      refine for_range (lo := 0) (fun i σ H9 => ∃ (v8 v9 v10 v11 : Option V) (bs : List Addr) (rs : List Rl), σ = [some (.ref d), some (.int m), some (.int t), some (.ref L), some (.ref q), some (.int far), some (.ref D), some (.ref R), v8, v9, v10, v11] ∧
          Keep d c H6 H9 ∧ Src H9 d c ∧ mask d c H9 R = some (.lst (bs.map V.ref)) ∧ Row rlV (mask d c H9) bs rs ∧ rs.length = i ∧ ∀ r, r ∈ rs → RlD r ∧ r.1 ∈ ws ∧ r.2.1 ∈ ws)
        ⟨_, _, _, _, [], [], rfl, k68, S8, mR8, ⟨rfl, fun i a p h => nomatch h⟩, rfl, fun r h => nomatch h⟩ ?_ ?_
      · rintro i σ H9 hi ⟨v8, v9, v10, v11, bs, rs, rfl, k9, S9, hR, row9, lr, okr⟩
        have hL9 : ∀ {H'}, Keep d c H9 H' → H' L = some (.lst (ws.map V.str)) := fun z => mask_same _ _ (mask_keep ((k6.trans k9).trans z) _ _ mL5)
        refine ⟨_, rfl, _, rfl, d, c, L, ws.map V.str, rfl, S9, hL9 Keep.refl, nL0, by rw [List.length_map]; omega, by rw [List.length_map]; omega, fun ja va Ha hva Sa ka => ?_⟩
        refine ⟨_, rfl, _, rfl, d, c, L, ws.map V.str, rfl, Sa, hL9 ka, nL0, by rw [List.length_map]; omega, by rw [List.length_map]; omega, fun jb vb Hb hvb Sb kb => ?_⟩
        obtain ⟨wa, rfl, ma⟩ := str_at hva
        obtain ⟨wb, rfl, mb⟩ := str_at hvb
        refine ⟨_, _, rfl, ?_⟩
        have mRb := mask_keep (ka.trans kb) _ _ hR
        refine ⟨_, rfl, .inl ⟨rfl, _, SqL.of (mask_same _ _ mRb)⟩, _, rfl, _, rfl, ?_⟩
        refine ⟨_, rfl, _, rfl, _, _, rfl, rfl, .inl ⟨by decide, by decide⟩, d, c, _, rfl, Sb, by omega, fun rc Hc c0 c1 Sc kc => ?_⟩
        refine ⟨_, rfl, _, _, rfl, rfl, _, rfl, (by show 4 ≤ sizeLine; decide), fun lz nlz => ?_⟩
        refine ⟨d, c, lz, ([0, 0, 3, 9] : List Int).map V.int, rfl, Sc.new nlz, upd_same, (Sc.away nlz).2, (by show 0 < 4; decide), (by show 4 < 1000000000; decide), fun jd vd Hd hvd Sd kd => ?_⟩
        obtain ⟨z, hz, rfl⟩ := int_at hvd
        have bz : 0 ≤ z ∧ z ≤ 9 := less_small (List.mem_of_getElem? hz)
        refine ⟨_, _, rfl, rfl, (by show 3 ≤ sizeLine; decide), fun tp ntp => ?_⟩
        have atp := Sd.away ntp
        have kk : Keep d c H9 (upd Hd tp (.tup [.str wa, .str wb, .int (rc - far - z)])) := ((((ka.trans kb).trans kc).new nlz).trans kd).new ntp
        have hRd := mask_keep kk _ _ hR
        have htp : mask d c (upd Hd tp (.tup [.str wa, .str wb, .int (rc - far - z)])) tp = some (rlV (wa, wb, rc - far - z)) := mask_at atp upd_same
        have rowd := (row9.same (mask_keep kk)).snoc htp
        have RR : R ∉ bs ++ [tp] := row_not rowd hRd (fun p z => by cases z)
        refine ⟨R, _, _, rfl, rfl, mask_same _ _ hRd, small1000 (by rw [List.length_map, row9.1]; omega), ?_⟩
        refine ⟨_, _, _, _, bs ++ [tp], rs ++ [(wa, wb, rc - far - z)], rfl, (k9.trans kk).put nR, (Sd.new ntp).put aR, mask_at aR ?_, rowd.but mask_but RR, by rw [List.length_append, lr]; rfl, ?_⟩
        · rw [upd_same, List.map_append]
          rfl
        · intro r hr
          rcases List.mem_append.mp hr with h | h
          · exact okr r h
          · cases List.mem_singleton.mp h
            exact ⟨⟨by show -40 ≤ rc - far - z; omega, by show rc - far - z ≤ 40; omega⟩, ma, mb⟩
      · rintro σ H9 ⟨v8, v9, v10, v11, bs, rs, rfl, k9, S9, hR, row9, lr, okr⟩
        intro nt nnt
        have ant := S9.away nnt
        refine ⟨_, rfl, _, rfl, upd_same, [(Sum.inr "points", .ref D), (Sum.inr "rules", .ref R)], rfl, (by show 2 ≤ 15; decide), ?_⟩
        rw [upd_upd, merge2 (by decide +kernel)]
        have gn : Same (mask d c H6) (mask d c (upd H9 nt (.dK [(Sum.inr "points", .ref D), (Sum.inr "rules", .ref R)]))) := (mask_keep k9).trans (mask_new nnt)
        have g9 := mask_new (d := d) (c := c) (o := .dK [(Sum.inr "points", .ref D), (Sum.inr "rules", .ref R)]) nnt
        refine k nt ps rs _ ⟨D, R, as, bs, mask_at ant upd_same, gn _ _ hD, g9 _ _ hR, row.same gn, row9.same g9⟩ ⟨⟨fun p hp => ?_, ?_, by omega, fun r hr => ?_, by omega⟩, by omega, by omega, by omega, okp, fun r hr => (okr r hr).1⟩ (S9.new nnt) (((t5.trans k6).trans k9).new nnt)
        · have q := okp p hp
          refine ⟨wok _ ?_, q.s1, Int.le_trans q.s12 (by decide)⟩
          rw [← en]
          exact List.mem_map_of_mem hp
        · rw [en]
          exact wnd
        · rw [en]
          exact (okr r hr).2
end
end K07
/-! own mathematics: rising over rules comes to its end within so many laps as there are numbers, or there is no timetable -/
namespace Rise
def upc (f s x : Int) : Int := f + (x - f + s - 1) / s * s
theorem upc_on (f s x : Int) : (upc f s x - f) % s = 0 := by
  unfold upc
  rw [show f + (x - f + s - 1) / s * s - f = (x - f + s - 1) / s * s by omega]
  exact Int.mul_emod_left _ _
theorem upc_ge {f s x : Int} (h : 0 < s) : x ≤ upc f s x := by
  unfold upc
  have e := Int.emod_add_mul_ediv (x - f + s - 1) s
  have l := Int.emod_lt_of_pos (x - f + s - 1) h
  rw [Int.mul_comm] at e
  omega
theorem upc_lt {f s x : Int} (h : 0 < s) : upc f s x < x + s := by
  unfold upc
  have e := Int.emod_add_mul_ediv (x - f + s - 1) s
  have l := Int.emod_nonneg (x - f + s - 1) (Int.ne_of_gt h)
  rw [Int.mul_comm] at e
  omega
/-- two numbers of a clock that are less than a step apart -/
theorem near_le {f s a b : Int} (h : 0 < s) (ha : (a - f) % s = 0) (hb : (b - f) % s = 0) (lt : a < b + s) : a ≤ b := by
  obtain ⟨i, hi⟩ := Int.dvd_of_emod_eq_zero ha
  obtain ⟨j, hj⟩ := Int.dvd_of_emod_eq_zero hb
  have e : a - b = s * (i - j) := by rw [Int.mul_sub]; omega
  have l : s * (i - j) < s * 1 := by rw [← e, Int.mul_one]; omega
  have q := Int.lt_of_mul_lt_mul_left l (Int.le_of_lt h)
  have : s * (i - j) ≤ s * 0 := Int.mul_le_mul_of_nonneg_left (by omega) (Int.le_of_lt h)
  rw [Int.mul_zero] at this
  omega
theorem upc_least {f s x z : Int} (h : 0 < s) (le : x ≤ z) (on : (z - f) % s = 0) : upc f s x ≤ z :=
  near_le h (upc_on f s x) on (by have := upc_lt (f := f) (x := x) h; omega)
theorem on_add {f s z N K : Int} (d : s ∣ N) (on : (z - f) % s = 0) : (z - K * N - f) % s = 0 := by
  obtain ⟨q, rfl⟩ := d
  rw [show z - K * (s * q) - f = (z - f) - s * (K * q) by rw [show K * (s * q) = s * (K * q) by rw [Int.mul_left_comm]]; omega]
  obtain ⟨i, hi⟩ := Int.dvd_of_emod_eq_zero on
  rw [hi, ← Int.mul_sub]
  exact Int.mul_emod_right _ _
theorem nodup_len : ∀ (M : Nat) (l : List Nat), l.Nodup → (∀ x, x ∈ l → x < M) → l.length ≤ M
  | 0, l, _, h => by
    cases l with
    | nil => exact Nat.le_refl _
    | cons x l => exact absurd (h x List.mem_cons_self) (Nat.not_lt_zero _)
  | M + 1, l, nd, h => by
    have q := nodup_len M (l.erase M) (List.Nodup.erase M nd) (fun x m => by
      have z := (List.Nodup.mem_erase_iff nd).mp m
      have := h x z.2
      have := z.1
      omega)
    rw [List.length_erase] at q
    split at q <;> omega
def code (N : Nat) (a : Nat × Int) : Nat := a.1 * N + (a.2 % (N : Int)).toNat
theorem code_inj {N : Nat} (h : 0 < N) {p q : Nat} {x y : Int} (e : code N (p, x) = code N (q, y)) : p = q ∧ x % (N : Int) = y % (N : Int) := by
  unfold code at e
  have b1 := Int.emod_nonneg x (show (N : Int) ≠ 0 by omega)
  have b2 := Int.emod_nonneg y (show (N : Int) ≠ 0 by omega)
  have c1 := Int.emod_lt_of_pos x (show (0 : Int) < N by omega)
  have c2 := Int.emod_lt_of_pos y (show (0 : Int) < N by omega)
  simp only at e
  have r1 : (x % (N : Int)).toNat < N := by omega
  have r2 : (y % (N : Int)).toNat < N := by omega
  have m1 : (p * N + (x % (N : Int)).toNat) % N = (x % (N : Int)).toNat := by rw [Nat.mul_comm, Nat.mul_add_mod, Nat.mod_eq_of_lt r1]
  have m2 : (q * N + (y % (N : Int)).toNat) % N = (y % (N : Int)).toNat := by rw [Nat.mul_comm, Nat.mul_add_mod, Nat.mod_eq_of_lt r2]
  rw [e, m2] at m1
  have pq : p * N = q * N := by omega
  exact ⟨Nat.eq_of_mul_eq_mul_right h pq, by omega⟩
section
variable {n N : Nat} {f s T : Nat → Int}
/-- how a number has come: a row of numbers, each led to by the next one -/
structure Chain (n N : Nat) (T X : Nat → Int) (p k : Nat) : Prop where
  ex : ∃ c : List (Nat × Int), c.length = k + 1 ∧ (∀ a, a ∈ c → a.1 < n ∧ a.2 ≤ X a.1 ∧ ∀ K : Int, a.2 + K * N ≤ T a.1 → X p + K * N ≤ T p) ∧ (c.map (code N)).Nodup
theorem Chain.start {X : Nat → Int} {p : Nat} (h : p < n) : Chain n N T X p 0 :=
  ⟨[(p, X p)], rfl, fun a m => by cases List.mem_singleton.mp m; exact ⟨h, Int.le_refl _, fun K z => z⟩, by simp⟩
theorem Chain.bound {X : Nat → Int} {p k : Nat} (h0 : 0 < N) (h : Chain n N T X p k) : k + 1 ≤ n * N := by
  obtain ⟨c, l, a, nd⟩ := h.ex
  have q := nodup_len (n * N) (c.map (code N)) nd (fun x m => by
    obtain ⟨b, hb, rfl⟩ := List.mem_map.mp m
    have hb1 := (a b hb).1
    unfold code
    have c2 := Int.emod_lt_of_pos b.2 (show (0 : Int) < N by omega)
    have b2 := Int.emod_nonneg b.2 (show (N : Int) ≠ 0 by omega)
    have : (b.1 + 1) * N ≤ n * N := Nat.mul_le_mul_right N hb1
    rw [Nat.add_mul, Nat.one_mul] at this
    omega)
  rw [List.length_map, l] at q
  exact q
theorem Chain.keep {X Y : Nat → Int} {p k : Nat} (h : Chain n N T X p k) (up : ∀ q, X q ≤ Y q) (e : Y p = X p) : Chain n N T Y p k := by
  obtain ⟨c, l, a, nd⟩ := h.ex
  refine ⟨c, l, fun b m => ?_, nd⟩
  obtain ⟨a1, a2, a3⟩ := a b m
  exact ⟨a1, Int.le_trans a2 (up _), fun K z => by rw [e]; exact a3 K z⟩
theorem Chain.raise {X Y : Nat → Int} {p q k : Nat} {l : Int} (h0 : 0 < N) (hp : p < n) (sp : 0 < s p) (sd : s p ∣ (N : Int)) (tp : (T p - f p) % s p = 0) (ok : T q + l ≤ T p) (h : Chain n N T X q k)
    (gt : X p < upc (f p) (s p) (X q + l)) (e : Y p = upc (f p) (s p) (X q + l)) (up : ∀ q, X q ≤ Y q) : Chain n N T Y p (k + 1) := by
  obtain ⟨c, lc, a, nd⟩ := h.ex
  have led : ∀ K : Int, X q + K * N ≤ T q → Y p + K * N ≤ T p := fun K z => by
    rw [e]
    have := upc_least (x := X q + l) (z := T p - K * N) sp (by omega) (on_add sd tp)
    omega
  refine ⟨(p, Y p) :: c, by rw [List.length_cons, lc], fun b m => ?_, ?_⟩
  · rcases List.mem_cons.mp m with rfl | m
    · exact ⟨hp, Int.le_refl _, fun K z => z⟩
    · obtain ⟨a1, a2, a3⟩ := a b m
      exact ⟨a1, Int.le_trans a2 (up _), fun K z => led K (a3 K z)⟩
  · rw [List.map_cons, List.nodup_cons]
    refine ⟨fun m => ?_, nd⟩
    obtain ⟨b, hb, eb⟩ := List.mem_map.mp m
    obtain ⟨a1, a2, a3⟩ := a b hb
    obtain ⟨b1, b2⟩ := b
    obtain ⟨rfl, em⟩ := code_inj h0 eb
    simp only at a2 a3
    have lt : b2 < Y b1 := by rw [e]; omega
    have d : (N : Int) ∣ Y b1 - b2 := Int.dvd_of_emod_eq_zero (Int.emod_eq_emod_iff_emod_sub_eq_zero.mp em.symm)
    have le : (N : Int) ≤ Y b1 - b2 := Int.le_of_dvd (by omega) d
    have z1 := Int.emod_add_mul_ediv (T b1 - b2) (N : Int)
    have z2 := Int.emod_nonneg (T b1 - b2) (show (N : Int) ≠ 0 by omega)
    have z3 := Int.emod_lt_of_pos (T b1 - b2) (show (0 : Int) < N by omega)
    rw [Int.mul_comm] at z1
    have w := led _ (a3 ((T b1 - b2) / (N : Int)) (by omega))
    omega
/-- what stands in a lap: each rule is kept, or a number ahead of it has come far -/
structure Lap (n N : Nat) (T : Nat → Int) (RA : Nat → Nat → Nat → Int → Prop) (X : Nat → Int) (m t : Nat) : Prop where
  ex : ∃ L : Nat → Nat, (∀ p, p < n → Chain n N T X p (L p)) ∧ ∀ k i j l, RA k i j l → X i + l ≤ X j ∨ (if k < t then m + 1 else m) ≤ L i
variable {RA : Nat → Nat → Nat → Int → Prop}
theorem Lap.start {X : Nat → Int} : Lap n N T RA X 0 0 := ⟨fun _ => 0, fun p h => Chain.start h, fun k i j l _ => .inr (by simp)⟩
theorem Lap.next {X : Nat → Int} {m t : Nat} (h : Lap n N T RA X m t) (all : ∀ k i j l, RA k i j l → k < t) : Lap n N T RA X (m + 1) 0 := by
  obtain ⟨L, h1, h2⟩ := h.ex
  refine ⟨L, h1, fun k i j l r => ?_⟩
  have := h2 k i j l r
  rw [if_pos (all k i j l r)] at this
  simpa using this
theorem Lap.still {X : Nat → Int} {m t i j : Nat} {l : Int} (h : Lap n N T RA X m t) (uniq : ∀ i' j' l', RA t i' j' l' → i' = i ∧ j' = j ∧ l' = l) (le : X i + l ≤ X j) : Lap n N T RA X m (t + 1) := by
  obtain ⟨L, h1, h2⟩ := h.ex
  refine ⟨L, h1, fun k i' j' l' r => ?_⟩
  by_cases e : k = t
  · subst e
    obtain ⟨rfl, rfl, rfl⟩ := uniq _ _ _ r
    exact .inl le
  · rcases h2 k i' j' l' r with z | z
    · exact .inl z
    · refine .inr ?_
      by_cases lt : k < t
      · rw [if_pos lt] at z
        rw [if_pos (by omega)]
        exact z
      · rw [if_neg lt] at z
        rw [if_neg (by omega)]
        exact z
theorem Lap.raise {X Y : Nat → Int} {m t i j : Nat} {l : Int} (h0 : 0 < N) (h : Lap n N T RA X m t) (r : RA t i j l) (uniq : ∀ i' j' l', RA t i' j' l' → i' = i ∧ j' = j ∧ l' = l) (hi : i < n) (hj : j < n)
    (sp : 0 < s j) (sd : s j ∣ (N : Int)) (tp : (T j - f j) % s j = 0) (ok : T i + l ≤ T j) (on : (X j - f j) % s j = 0)
    (gt : X j < upc (f j) (s j) (X i + l)) (e : Y j = upc (f j) (s j) (X i + l)) (same : ∀ q, q ≠ j → Y q = X q) : Lap n N T RA Y m (t + 1) ∧ m + 2 ≤ n * N := by
  obtain ⟨L, h1, h2⟩ := h.ex
  have up : ∀ q, X q ≤ Y q := fun q => by
    by_cases z : q = j
    · subst z
      rw [e]
      omega
    · rw [same q z]
      exact Int.le_refl _
  have far : m ≤ L i := by
    rcases h2 t i j l r with z | z
    · exact absurd (upc_least sp z on) (by omega)
    · rw [if_neg (by omega)] at z
      exact z
  have ch := (h1 i hi).raise h0 hj sp sd tp ok gt e up
  refine ⟨⟨fun q => if q = j then L i + 1 else L q, fun p hp => ?_, fun k i' j' l' r' => ?_⟩, ?_⟩
  · by_cases z : p = j
    · subst z
      simp only [if_true]
      exact ch
    · simp only [if_neg z]
      exact (h1 p hp).keep up (same p z)
  · by_cases z : i' = j
    · right
      simp only [if_pos z]
      split <;> omega
    · simp only [if_neg z]
      rw [same i' z]
      by_cases et : k = t
      · subst et
        obtain ⟨rfl, rfl, rfl⟩ := uniq _ _ _ r'
        left
        rw [e]
        exact upc_ge sp
      · rcases h2 k i' j' l' r' with y | y
        · exact .inl (Int.le_trans y (up _))
        · right
          by_cases lt : k < t
          · rw [if_pos lt] at y
            rw [if_pos (by omega)]
            exact y
          · rw [if_neg lt] at y
            rw [if_neg (by omega)]
            exact y
  · have := ch.bound h0
    omega
end
end Rise
namespace K07
open PySem PySem.Spec L2 Rt
open PyProof.Rows hiding St
abbrev sRisen : Stmt := top 42
structure Tab (ps : List Pt) (rs : List Rl) (xs : List Int) : Prop where
  len : xs.length = ps.length
  on : ∀ j, j < ps.length → onAt ps (xs.map V.int) j
  keep : ∀ j, j < rs.length → keepsAt ps rs (xs.map V.int) j
  lo : ∀ x, x ∈ xs → -100000000 ≤ x
  hi : ∀ x, x ∈ xs → x ≤ 100000000
theorem eqvAll_ints : ∀ xs ys : List Int, PyData.eqvAll (xs.map PyData.int) (ys.map PyData.int) = decide (xs = ys)
  | [], [] => by simp [PyData.eqvAll]
  | [], _ :: _ => by simp [PyData.eqvAll]
  | _ :: _, [] => by simp [PyData.eqvAll]
  | x :: xs, y :: ys => by
    have h := eqvAll_ints xs ys
    have e : (x == y) = decide (x = y) := by
      rw [Bool.eq_iff_iff]
      simp
    simp [PyData.eqvAll, PyData.eqv, h, e]
theorem eqv_ints (xs ys : List Int) : PyData.eqv (.list (xs.map PyData.int)) (.list (ys.map PyData.int)) = decide (xs = ys) := by
  simp [PyData.eqv, eqvAll_ints]
theorem dpAll_ints {K : PySem.W.Frag} {H : Hp} : ∀ ks : List Int, DpAll K H (ks.map V.int) (ks.map PyData.int)
  | [] => .nil
  | k :: ks => .cons (.int k) (dpAll_ints ks)
theorem lay_ints : ∀ ks : List Int, PyData.canLayAll0 (ks.map PyData.int) = true
  | [] => by simp [PyData.canLayAll0]
  | k :: ks => by
    have h := lay_ints ks
    simp [PyData.canLayAll0, PyData.canLay0, h]
theorem depth_ints : ∀ ks : List Int, PyData.depthAll (ks.map PyData.int) = 0
  | [] => by simp [PyData.depthAll]
  | k :: ks => by
    have h := depth_ints ks
    simp [PyData.depthAll, PyData.depth, h]
theorem shaped_ints (ks : List Int) : SeqAt.shaped (.list (ks.map PyData.int)) = true := by
  unfold SeqAt.shaped
  simp [PyData.canLay0, lay_ints, PyData.depth, depth_ints]
/-- from an old row to one that is nowhere less: setting one place higher -/
structure Above (xs ys : List Int) : Prop where
  len : ys.length = xs.length
  le : ∀ (k : Nat) (a b : Int), xs[k]? = some a → ys[k]? = some b → a ≤ b
theorem Above.refl (xs : List Int) : Above xs xs := ⟨rfl, fun k a b h1 h2 => by cases h1.symm.trans h2; exact Int.le_refl _⟩
theorem Above.set {xs ys : List Int} {k : Nat} {v b : Int} (h : Above xs ys) (hb : ys[k]? = some b) (le : b ≤ v) : Above xs (ys.set k v) := by
  refine ⟨by rw [List.length_set]; exact h.len, fun m a c h1 h2 => ?_⟩
  rw [List.getElem?_set] at h2
  split at h2
  · rename_i e
    subst e
    split at h2
    · cases h2
      exact Int.le_trans (h.le _ _ _ h1 hb) le
    · cases h2
  · exact h.le _ _ _ h1 h2
theorem Above.back {xs ys : List Int} {k : Nat} {v b : Int} (h : Above xs ys) (hb : ys[k]? = some b) (le : b ≤ v) (e : ys.set k v = xs) : ys = xs := by
  refine List.ext_getElem? fun m => ?_
  by_cases z : k = m
  · subst z
    have hk := (List.getElem?_eq_some_iff.mp hb).1
    have h1 : xs[k]? = some v := by
      rw [← e, List.getElem?_set_self hk]
    have h2 := h.le k v b h1 hb
    rw [hb, h1, show b = v by omega]
  · rw [← e, List.getElem?_set_ne z]
theorem int_get {ys : List Int} {i : Nat} {z : Int} (h : (ys.map V.int)[i]? = some (V.int z)) : ys[i]? = some z := by
  obtain ⟨y, hy, e⟩ := int_at h
  cases e
  exact hy
theorem dvd_foldl {p : Pt} : ∀ (ps : List Pt) (l : Nat), (p ∈ ps ∨ p.2.2.toNat ∣ l) → p.2.2.toNat ∣ ps.foldl (fun l p => Nat.lcm l p.2.2.toNat) l
  | [], _, h => h.elim (fun z => nomatch z) id
  | q :: ps, l, h => dvd_foldl ps _ (by
    rcases h with h | h
    · rcases List.mem_cons.mp h with rfl | h
      · exact .inr (Nat.dvd_lcm_right _ _)
      · exact .inl h
    · exact .inr (Nat.dvd_trans h (Nat.dvd_lcm_left _ _)))
theorem dvd_lcmOf {ps : List Pt} {p : Pt} (h : p ∈ ps) : p.2.2.toNat ∣ lcmOf ps := dvd_foldl ps 1 (.inl h)
theorem lcm_pos {M : Nat} (ps : List Pt) (h : ∀ p, p ∈ ps → p.2.2.toNat ∣ M) (h0 : 0 < M) : 0 < lcmOf ps := Nat.pos_of_dvd_of_pos (lcm_dvd ps 1 (Nat.one_dvd M) h) h0
/-! ### the numbers of a network, by place -/
def fN (ps : List Pt) (p : Nat) : Int := match ps[p]? with | some q => q.2.1 | none => 0
def sN (ps : List Pt) (p : Nat) : Int := match ps[p]? with | some q => q.2.2 | none => 1
def xN (xs : List Int) (p : Nat) : Int := xs.getD p 0
def RuleAt (ps : List Pt) (rs : List Rl) (k i j : Nat) (l : Int) : Prop := ∃ r, rs[k]? = some r ∧ (namesOf ps)[i]? = some r.1 ∧ (namesOf ps)[j]? = some r.2.1 ∧ l = r.2.2
theorem fN_at {ps : List Pt} {p : Nat} {q : Pt} (h : ps[p]? = some q) : fN ps p = q.2.1 := by unfold fN; rw [h]
theorem sN_at {ps : List Pt} {p : Nat} {q : Pt} (h : ps[p]? = some q) : sN ps p = q.2.2 := by unfold sN; rw [h]
theorem xN_at {xs : List Int} {p : Nat} {z : Int} (h : xs[p]? = some z) : xN xs p = z := by unfold xN; rw [List.getD_eq_getElem?_getD, h]; rfl
theorem xN_set {xs : List Int} {p : Nat} {z v : Int} (h : xs[p]? = some z) : xN (xs.set p v) p = v := xN_at (by rw [List.getElem?_set_self (List.getElem?_eq_some_iff.mp h).1])
theorem xN_other {xs : List Int} {p q : Nat} {v : Int} (h : q ≠ p) : xN (xs.set p v) q = xN xs q := by
  unfold xN
  rw [List.getD_eq_getElem?_getD, List.getD_eq_getElem?_getD, List.getElem?_set_ne (Ne.symm h)]
theorem set_self {xs : List Int} {p : Nat} {z : Int} (h : xs[p]? = some z) : xs.set p z = xs := by
  refine List.ext_getElem? fun m => ?_
  by_cases e : p = m
  · subst e
    rw [List.getElem?_set_self (List.getElem?_eq_some_iff.mp h).1, h]
  · rw [List.getElem?_set_ne e]
theorem Tab.at_ {ps : List Pt} {rs : List Rl} {zs : List Int} (t : Tab ps rs zs) {j : Nat} (h : j < ps.length) : (xN zs j - fN ps j) % sN ps j = 0 := by
  obtain ⟨p, x, h1, h2, h3⟩ := t.on j h
  have e : ∃ z, x = V.int z := by
    rw [List.getElem?_map] at h2
    cases q : zs[j]? with
    | none => rw [q] at h2; cases h2
    | some z => rw [q] at h2; exact ⟨z, (Option.some.inj h2).symm⟩
  obtain ⟨z, rfl⟩ := e
  have q : zs[j]? = some z := by
    rw [List.getElem?_map] at h2
    cases q : zs[j]? with
    | none => rw [q] at h2; cases h2
    | some y => rw [q] at h2; cases h2; rfl
  rw [xN_at q, fN_at h1, sN_at h1]
  exact of_decide_eq_true h3
theorem Tab.kept {ps : List Pt} {rs : List Rl} {zs : List Int} (nd : (namesOf ps).Nodup) (t : Tab ps rs zs) {k i j : Nat} {l : Int} (r : RuleAt ps rs k i j l) : xN zs i + l ≤ xN zs j := by
  obtain ⟨r, h1, h2, h3, rfl⟩ := r
  obtain ⟨r', a, b, g1, ⟨i', j', g2, g3, g4, g5⟩, g6⟩ := t.keep k (List.getElem?_eq_some_iff.mp h1).1
  cases h1.symm.trans g1
  cases name_uniq nd h2 g2
  cases name_uniq nd h3 g3
  have e : ∀ {m : Nat} {c : Int}, (zs.map V.int)[m]? = some (V.int c) → xN zs m = c := fun {m c} h => by
    rw [List.getElem?_map] at h
    cases q : zs[m]? with
    | none => rw [q] at h; cases h
    | some y => rw [q] at h; cases h; exact xN_at q
  rw [e g4, e g5]
  exact g6
def spRisen : Sp := fun vs H Q _ => ∃ (n fl : Addr) (ps : List Pt) (rs : List Rl) (fs : List Int) (most ties : Nat), vs = [.ref n, .ref fl] ∧ LNet H n ps rs ∧ Drawn ps rs most ties ∧ most ≤ 50 ∧ ties ≤ 50 ∧ H fl = some (.lst (fs.map V.int)) ∧ fs.length = ps.length ∧ (∀ x, x ∈ fs → -100 ≤ x ∧ x ≤ 100) ∧
  ∀ (v : V) (H' : Hp), Same H H' → (v = .non ∧ ¬ ∃ zs, Tab ps rs zs) ∨ (∃ (t : Addr) (xs : List Int), v = .ref t ∧ H' t = some (.tup (xs.map V.int)) ∧ Tab ps rs xs) → Q v H'
section
variable {P : Program} {w : World} {K : PySem.W.Frag} {mg : Str → Option Value} {base : Heap} {f : Addr} {fd : FuncData}
theorem scRisen : FnScope ["net", "floors", "found", "lap", "old", "start", "end", "least", "here", "late", "point", "floor"] ["net", "floors"] (defScope sRisen) := ⟨rfl, rfl, rfl, by decide +kernel, rfl, by decide +kernel, by decide +kernel⟩
theorem ok_risen (F : Fun K "_law_risen" "_law_risen" sRisen f fd) (T : Lw mg) (cU : Cb P w K mg base 1 "_law_up" spLUp) (cPer : Cb P w K mg base 1 "_law_period" spPeriod) (cPl : Cb P w K mg base 1 "_law_place" spPlace) (cCl : Cb P w K mg base 2 "_law_clock_of" spClockOf) : FnG P w K mg base 3 f fd ["net", "floors"] spRisen := by
  refine okG F scRisen (fun vs H Q E h => ?_) (fun cdv A outer s H vs Q E hg hr h => ?_)
  · obtain ⟨n, fl, ps, rs, fs, m, t, rfl, _⟩ := h
    rfl
  · obtain ⟨n, fl, ps, rs, fs, m, t, rfl, net, dr, hm, ht, hf, lf, bf, k1⟩ := h
    have hu := hu_of hr
    have hu64 := hr.units
    refine ⟨_, (pss_cons (ps_setLc (i := 2) (own := [("point", 10), ("floor", 11)]) rfl scRisen.nd rfl rfl (sw_true rfl rfl rfl (by decide +kernel)) (pi_zip (by rfl) T.zzip (pa_cons (pe_dget hu (pv 0) pe_str (fun _ _ => rfl)) (pa_cons (pv 1) pa_nil))) (blkOk_by (N := ["net", "floors", "found", "lap", "old", "start", "end", "least", "here", "late", "point", "floor"]) (sc := defScope sRisen) (by decide +kernel)) (fun _ _ _ _ _ => (pg_tk (K := K) (n := 2) rfl (by rfl) (pgs_cons (pg_name (i := 10) scRisen.nd rfl (.inl rfl)) (pgs_cons (pg_name (i := 11) scRisen.nd rfl (.inl rfl)) pgs_nil)) (by rfl) (by rfl))) (fun _ _ _ _ _ => pts_nil) (fun _ _ _ _ _ => (pe_k cU hg hr (by decide) (by rfl) (pa_cons (pe_tup (pa_cons (pe_ix (ix_tup : IxR _ (rIxT K)) (pv 10) pe_int (fun _ _ => rfl)) (pa_cons (pe_ix (ix_tup : IxR _ (rIxT K)) (pv 10) pe_int (fun _ _ => rfl)) pa_nil))) (pa_cons (pv 11) pa_nil)))))
      (pss_cons (ps_for PassesOwn.never rfl (pi_range1 (by rfl) T.zrange (pa_cons (pe_op op_add (pe_op op_mul (pe_callB call_len_seq (by rfl) T.zlen (by decide +kernel) (pa_cons (pe_dget hu (pv 0) pe_str (fun _ _ => rfl)) pa_nil)) (pe_k cPer hg hr (by decide) (by rfl) (pa_cons (pv 0) pa_nil))) pe_int) pa_nil)) (pg_name (i := 3) scRisen.nd rfl (.inl rfl))
        (pss_cons (ps_set (i := 4) scRisen.nd rfl (.inl rfl) (pe_callTy call_list_of (by rfl) T.zlist (by decide +kernel) (pa_cons (pv 2) pa_nil)))
        (pss_cons (ps_for PassesOwn.never rfl (pi_list (pe_dget hu (pv 0) pe_str (fun _ _ => rfl))) (pg_tup (by rfl) (pgs_cons (pg_name (i := 5) scRisen.nd rfl (.inl rfl)) (pgs_cons (pg_name (i := 6) scRisen.nd rfl (.inl rfl)) (pgs_cons (pg_name (i := 7) scRisen.nd rfl (.inl rfl)) pgs_nil))))
          (pss_cons (ps_par (i := 8) (j := 9) rfl scRisen.nd rfl rfl (by decide) rfl rfl (pa_cons (pe_k cPl hg hr (by decide) (by rfl) (pa_cons (pv 0) (pa_cons (pv 5) pa_nil))) (pa_cons (pe_k cPl hg hr (by decide) (by rfl) (pa_cons (pv 0) (pa_cons (pv 6) pa_nil))) pa_nil)) (by rfl))
          (pss_one (ps_asg (pe_callB (call_max2 rfl) (by rfl) T.zmax (by decide +kernel) (pa_cons (pe_ix ix_list (pv 2) (pv 9) (fun _ _ => rfl)) (pa_cons (pe_k cU hg hr (by decide) (by rfl) (pa_cons (pe_k cCl hg hr (by decide) (by rfl) (pa_cons (pv 0) (pa_cons (pv 6) pa_nil))) (pa_cons (pe_op op_add (pe_ix ix_list (pv 2) (pv 8) (fun _ _ => rfl)) (pv 7)) pa_nil))) pa_nil))) (pg_sub (pv 2) (pv 9) set_list)))))
        (pss_one (ps_if (pt_cmpR (op_eqD hu64) (pv 4) (pv 2) (nomark _)) (pss_one (ps_ret (pe_callTy call_tuple_of (by rfl) T.ztuple (by decide +kernel) (pa_cons (pv 2) pa_nil)))) pss_nil)))))
      (pss_one (ps_ret pe_non)))), ?_⟩
    obtain ⟨PA, RA, as, bs, h1, h2, h3, h4, h5⟩ := net.ex
    refine ⟨_, rfl, n, _, rfl, get_pts h1, _, rfl, ?_⟩
    refine ⟨PA, fl, _, _, rfl, SqL.of h2, SqL.of hf, fun F0 nF => ?_⟩
    have few : ps.length ≤ 50 := Nat.le_trans dr.pm hm
    have fewR : rs.length ≤ 50 := Nat.le_trans dr.rm ht
    have lz : (as.map V.ref).length = ps.length := by rw [List.length_map, h4.1]
    have pAt : ∀ (i : Nat) (hi : i < ps.length), ∃ a, as[i]? = some a ∧ H a = some (.tup [.str ps[i].1, .int ps[i].2.1, .int ps[i].2.2]) := fun i hi => by
      have hi' : i < as.length := by rw [h4.1]; exact hi
      exact ⟨as[i], List.getElem?_eq_getElem hi', h4.2 i _ _ (List.getElem?_eq_getElem hi') (List.getElem?_eq_getElem hi)⟩
    refine lc_it (walk_zip (n := ps.length) (by rw [lz, List.length_map, lf, Nat.min_self])) (fun i H1 => Same H H1 ∧ ∃ xs : List Int, H1 F0 = some (.lst (xs.map V.int)) ∧ xs.length = i ∧ (∀ j, j < i → onAt ps (xs.map V.int) j) ∧ ∀ x, x ∈ xs → -200 ≤ x ∧ x ≤ 200)
      ⟨same_new nF, [], upd_same, rfl, fun j h => absurd h (by omega), fun x h => nomatch h⟩ (fun i H1 _ z => ⟨SqL.of (z.1 _ _ h2), SqL.of (z.1 _ _ hf)⟩) ?_ ?_
    · rintro i y H1 H2 hi ⟨s1, xs, hF, rfl, on, big⟩ ⟨tu, x1, x2, rfl, ntu, rfl, e1, e2⟩
      obtain ⟨ai, ea, pa⟩ := pAt _ hi
      have hfi : xs.length < fs.length := by omega
      obtain rfl : V.ref ai = x1 := by
        have e1 : (as.map V.ref)[xs.length]? = some x1 := e1
        rw [List.getElem?_map, ea] at e1
        exact Option.some.inj e1
      obtain rfl : V.int fs[xs.length] = x2 := by
        have e2 : (fs.map V.int)[xs.length]? = some x2 := e2
        rw [List.getElem?_map, List.getElem?_eq_getElem hfi] at e2
        exact Option.some.inj e2
      have s2 : Same H1 (upd H1 tu (.tup [.ref ai, .int fs[xs.length]])) := same_new ntu
      have pa2 := s2 _ _ (s1 _ _ pa)
      refine ⟨tu, _, rfl, SqT.of upd_same, rfl, _, _, rfl, _, _, rfl, rfl, rfl, ?_⟩
      refine ⟨_, rfl, ai, _, 1, _, rfl, rfl, SqT.of pa2, rfl, _, rfl, ai, _, 2, _, rfl, rfl, SqT.of pa2, rfl, (by show 2 ≤ sizeLine; decide), fun tc ntc => ?_⟩
      have s3 := s2.trans (same_new (o := .tup [.int ps[xs.length].2.1, .int ps[xs.length].2.2]) ntc)
      have pd := dr.pt _ (List.getElem_mem hi)
      have st0 : 0 < ps[xs.length].2.2 := by have := pd.s1; omega
      have st12 := pd.s12
      refine ⟨_, rfl, tc, _, _, _, rfl, upd_same, st0, by omega, ?_⟩
      have b := bf _ (List.getElem_mem hfi)
      have u1 := upv_le (f := ps[xs.length].2.1) (x := fs[xs.length]) st0
      have u2 := upv_lt (f := ps[xs.length].2.1) (x := fs[xs.length]) st0
      have u3 := upv_on ps[xs.length].2.1 ps[xs.length].2.2 fs[xs.length]
      refine ⟨_, s3 _ _ hF, small1000 (by rw [List.length_map]; omega), fun b o z => by rw [upd_ne (ne_of_none z nF)]; exact (s1.trans s3) b o z, xs ++ [upv ps[xs.length].2.1 ps[xs.length].2.2 fs[xs.length]], ?_, by rw [List.length_append]; rfl, ?_, ?_⟩
      · rw [upd_same, List.map_append]
        rfl
      · intro j hj
        rw [List.map_append]
        rcases Nat.lt_or_eq_of_le (Nat.le_of_lt_succ hj) with lt | rfl
        · obtain ⟨p, x, g1, g2, g3⟩ := on j lt
          exact ⟨p, x, g1, by rw [List.getElem?_append_left (by rw [List.length_map]; exact lt)]; exact g2, g3⟩
        · refine ⟨_, _, List.getElem?_eq_getElem hi, by rw [List.getElem?_append_right (by rw [List.length_map]; exact Nat.le_refl _), List.length_map, Nat.sub_self]; rfl, ?_⟩
          exact decide_eq_true u3
      · intro x hx
        rcases List.mem_append.mp hx with h | h
        · exact big x h
        · cases List.mem_singleton.mp h
          omega
    · rintro H1 ⟨s1, xs, hF, lx, on, big⟩
      refine ⟨_, rfl, n, _, rfl, get_pts (s1 _ _ h1), PA, _, rfl, .inl (SqL.of (s1 _ _ h2)), _, rfl, n, ps, rs, 420, rfl, net.same s1, fun p hp => ⟨(dr.pt p hp).s1, by have := (dr.pt p hp).s12; omega, (dr.pt p hp).dv⟩, by decide, by decide, fun H2 s2 => ?_⟩
      have per : lcmOf ps ≤ 420 := Nat.le_of_dvd (by decide) (lcm_dvd ps 1 (Nat.one_dvd 420) fun p hp => (dr.pt p hp).dv)
      refine ⟨_, _, rfl, rfl, .inl ⟨by omega, by omega⟩, _, _, rfl, rfl, ?_⟩
      have laps : ps.length * lcmOf ps ≤ 21000 := Nat.le_trans (Nat.mul_le_mul few per) (by decide)
      refine ⟨((ps.length * lcmOf ps + 2 : Nat) : Int), by rw [Int.natCast_add, Int.natCast_mul, ← lz]; rfl, by omega, by omega, ?_⟩
      rw [Int.toNat_natCast]
      have le2 : ps.length * lcmOf ps + 2 ≤ 21002 := by omega
      have N0 : 0 < lcmOf ps := lcm_pos (M := 420) ps (fun p hp => (dr.pt p hp).dv) (by decide)
      revert le2
      generalize el : ps.length * lcmOf ps + 2 = laps
      intro le2
      have s02 := s1.trans s2
      refine for_range (lo := 0) (fun i σ H3 => ∃ (v3 v4 v5 v6 v7 v8 v9 v10 v11 : Option V) (xs : List Int), σ = [some (.ref n), some (.ref fl), some (.ref F0), v3, v4, v5, v6, v7, v8, v9, v10, v11] ∧ Same H H3 ∧ H3 F0 = some (.lst (xs.map V.int)) ∧ xs.length = ps.length ∧
          (∀ j, j < ps.length → onAt ps (xs.map V.int) j) ∧ (∀ x, x ∈ xs → -200 ≤ x ∧ x ≤ 200 + 3000 * (i : Int)) ∧ ∀ zs, Tab ps rs zs → Rise.Lap ps.length (lcmOf ps) (xN zs) (RuleAt ps rs) (xN xs) i 0 ∧ (i = 0 ∨ i + 1 ≤ ps.length * lcmOf ps))
        ⟨_, _, _, _, _, _, _, _, _, xs, rfl, s02, s2 _ _ hF, lx, on, fun x hx => by have := big x hx; omega, fun zs tz => ⟨Rise.Lap.start, .inl rfl⟩⟩ ?_ ?_
      · rintro i σ H3 hi ⟨v3, v4, v5, v6, v7, v8, v9, v10, v11, xs, rfl, s3, hF, lx, on, big, lap⟩
        refine ⟨_, rfl, F0, _, rfl, .inl (SqL.of hF), fun O nO => ?_⟩
        have s4 : Same H (upd H3 O (.lst (xs.map V.int))) := s3.trans (same_new nO)
        have OF : F0 ≠ O := ne_of_none hF nO
        have hO4 : (upd H3 O (.lst (xs.map V.int))) O = some (.lst (xs.map V.int)) := upd_same
        have hF4 : (upd H3 O (.lst (xs.map V.int))) F0 = some (.lst (xs.map V.int)) := by rw [upd_ne OF]; exact hF
        revert s4 hO4 hF4
        generalize upd H3 O (.lst (xs.map V.int)) = H4
        intro s4 hO4 hF4
        refine ⟨_, rfl, n, _, rfl, get_rls (s4 _ _ h1), RA, rfl, ⟨_, SqL.of (s4 _ _ h3)⟩, ?_⟩
        refine for_it walk_list (fun j σ H5 => ∃ (v5 v6 v7 v8 v9 v10 v11 : Option V) (ys : List Int), σ = [some (.ref n), some (.ref fl), some (.ref F0), some (.int (0 + (i : Int))), some (.ref O), v5, v6, v7, v8, v9, v10, v11] ∧ Same H H5 ∧ H5 F0 = some (.lst (ys.map V.int)) ∧ H5 O = some (.lst (xs.map V.int)) ∧
            Above xs ys ∧ (∀ k, k < ps.length → onAt ps (ys.map V.int) k) ∧ (∀ y, y ∈ ys → -200 ≤ y ∧ y ≤ 200 + 3000 * (i : Int) + 60 * (j : Int)) ∧ (ys = xs → ∀ k, k < j → keepsAt ps rs (xs.map V.int) k) ∧ ∀ zs, Tab ps rs zs → Rise.Lap ps.length (lcmOf ps) (xN zs) (RuleAt ps rs) (xN ys) i j ∧ (ys = xs ∨ i + 2 ≤ ps.length * lcmOf ps))
          ⟨_, _, _, _, _, _, _, xs, rfl, s4, hF4, hO4, Above.refl xs, on, fun y hy => by have := big y hy; omega, fun _ k h => absurd h (by omega), fun zs tz => ⟨(lap zs tz).1, .inl rfl⟩⟩ (fun j σ H5 _ ⟨_, _, _, _, _, _, _, _, _, s5, _⟩ => SqL.of (s5 _ _ h3)) ?_ ?_
        · rintro j y σ5 H5 H5b hj ⟨v5, v6, v7, v8, v9, v10, v11, ys, rfl, s5, hF5, hO5, ab, ony, bigy, fix, lapy⟩ ⟨rfl, hy⟩
          have hjb : j < bs.length := by rw [List.length_map] at hj; exact hj
          have hjr : j < rs.length := by rw [← h5.1]; exact hjb
          obtain rfl : V.ref bs[j] = y := by
            rw [List.getElem?_map, List.getElem?_eq_getElem hjb] at hy
            exact Option.some.inj hy
          have pb : H5b bs[j] = some (.tup [.str rs[j].1, .str rs[j].2.1, .int rs[j].2.2]) := s5 _ _ (h5.2 j _ _ (List.getElem?_eq_getElem hjb) (List.getElem?_eq_getElem hjr))
          refine ⟨bs[j], _, rfl, SqT.of pb, rfl, _, _, rfl, _, _, rfl, _, _, rfl, rfl, ?_⟩
          obtain ⟨m1, m2⟩ := dr.good.ends _ (List.getElem_mem hjr)
          have ly : ys.length = ps.length := by rw [ab.len, lx]
          obtain ⟨ia, za, n1, x1⟩ := num_at (by rw [List.length_map, ly]) ony m1
          obtain ⟨ib, zb, n2, x2⟩ := num_at (by rw [List.length_map, ly]) ony m2
          have few100 : ps.length ≤ 100 := by omega
          refine ⟨_, rfl, _, rfl, n, ps, rs, ia, _, rfl, net.same s5, dr.good.nd, few100, n1, fun H6 s6 => ?_⟩
          refine ⟨_, rfl, _, rfl, n, ps, rs, ib, _, rfl, net.same (s5.trans s6), dr.good.nd, few100, n2, fun H7 s7 => ?_⟩
          refine ⟨_, _, rfl, ?_⟩
          have s57 := s6.trans s7
          refine ⟨_, rfl, _, rfl, F0, _, _, _, rfl, rfl, SqL.of (s57 _ _ hF5), atN x2, ?_⟩
          have hib : ib < ps.length := by have := (List.getElem?_eq_some_iff.mp n2).1; rw [List.length_map] at this; exact this
          have nib : ps[ib].1 = rs[j].2.1 := by
            rw [List.getElem?_map, List.getElem?_eq_getElem hib] at n2
            exact Option.some.inj n2
          refine ⟨_, rfl, _, rfl, n, ps, rs, ib, ps[ib], by rw [nib]; rfl, net.same (s5.trans s57), dr.good.nd, few100, List.getElem?_eq_getElem hib, fun tc H8 s8 htc => ?_⟩
          have s58 := s57.trans s8
          refine ⟨_, rfl, _, rfl, F0, _, _, _, rfl, rfl, SqL.of (s58 _ _ hF5), atN x1, _, rfl, _, _, rfl, rfl, ?_⟩
          have pd := dr.pt _ (List.getElem_mem hib)
          have st0 : 0 < ps[ib].2.2 := by have := pd.s1; omega
          have st12 := pd.s12
          have rd := dr.rl _ (List.getElem_mem hjr)
          have rd1 := rd.l1
          have rd2 := rd.l2
          have u1 := upv_le (f := ps[ib].2.1) (x := za + rs[j].2.2) st0
          have u2 := upv_lt (f := ps[ib].2.1) (x := za + rs[j].2.2) st0
          have u3 := upv_on ps[ib].2.1 ps[ib].2.2 (za + rs[j].2.2)
          refine ⟨tc, _, _, _, rfl, htc, st0, by omega, _, _, rfl, _, rfl, _, rfl, F0, _, _, ib, rfl, rfl, s58 _ _ hF5, ?_, ?_⟩
          · unfold ixN
            rw [if_pos (by omega), if_pos (by rw [List.length_map]; omega), Int.toNat_natCast]
          have y1 : ys[ia]? = some za := int_get x1
          have y2 : ys[ib]? = some zb := int_get x2
          have by1 := bigy _ (List.mem_of_getElem? y1)
          have by2 := bigy _ (List.mem_of_getElem? y2)
          have hOF : O ≠ F0 := Ne.symm OF
          have hia : ia < ps.length := by have := (List.getElem?_eq_some_iff.mp n1).1; rw [List.length_map] at this; exact this
          have pib := List.getElem?_eq_getElem hib
          have ra : RuleAt ps rs j ia ib rs[j].2.2 := ⟨_, List.getElem?_eq_getElem hjr, n1, n2, rfl⟩
          have raU : ∀ i' j' l', RuleAt ps rs j i' j' l' → i' = ia ∧ j' = ib ∧ l' = rs[j].2.2 := fun i' j' l' ⟨r, g1, g2, g3, g4⟩ => by
            cases (List.getElem?_eq_getElem hjr).symm.trans g1
            exact ⟨name_uniq dr.good.nd g2 n1, name_uniq dr.good.nd g3 n2, g4⟩
          have lapU : ∀ zs, Tab ps rs zs → upv ps[ib].2.1 ps[ib].2.2 (za + rs[j].2.2) ≤ zb → Rise.Lap ps.length (lcmOf ps) (xN zs) (RuleAt ps rs) (xN ys) i (j + 1) := fun zs tz le =>
            (lapy zs tz).1.still raU (by rw [xN_at y1, xN_at y2]; omega)
          have lapR : ∀ zs, Tab ps rs zs → zb < upv ps[ib].2.1 ps[ib].2.2 (za + rs[j].2.2) → Rise.Lap ps.length (lcmOf ps) (xN zs) (RuleAt ps rs) (xN (ys.set ib (upv ps[ib].2.1 ps[ib].2.2 (za + rs[j].2.2)))) i (j + 1) ∧ i + 2 ≤ ps.length * lcmOf ps := fun zs tz lt => by
            have onb : (zb - ps[ib].2.1) % ps[ib].2.2 = 0 := by
              obtain ⟨p, x, g1, g2, g3⟩ := ony ib hib
              cases pib.symm.trans g1
              cases x2.symm.trans g2
              exact of_decide_eq_true g3
            have sd : ps[ib].2.2 ∣ ((lcmOf ps : Nat) : Int) := by
              have e : ps[ib].2.2 = ((ps[ib].2.2.toNat : Nat) : Int) := (Int.toNat_of_nonneg (by omega)).symm
              rw [e]
              exact Int.natCast_dvd_natCast.mpr (dvd_lcmOf (List.getElem_mem hib))
            exact (lapy zs tz).1.raise (f := fN ps) (s := sN ps) N0 ra raU hia hib (by rw [sN_at pib]; exact st0) (by rw [sN_at pib]; exact sd) (tz.at_ hib) (tz.kept dr.good.nd ra) (by rw [xN_at y2, fN_at pib, sN_at pib]; exact onb)
              (by rw [xN_at y2, xN_at y1, fN_at pib, sN_at pib]; exact lt) (by rw [xN_set y2, xN_at y1, fN_at pib, sN_at pib]; rfl) (fun q hq => xN_other hq)
          revert u1 u2 u3 lapU lapR
          generalize upv ps[ib].2.1 ps[ib].2.2 (za + rs[j].2.2) = u
          intro u1 u2 u3 lapU lapR
          obtain ⟨v, ev, vb, vu, vor, vgt⟩ : ∃ v : Int, v = (if u > zb then u else zb) ∧ zb ≤ v ∧ u ≤ v ∧ (v = u ∨ v = zb) ∧ ((v = u ∧ zb < u) ∨ (v = zb ∧ u ≤ zb)) := by
            refine ⟨_, rfl, ?_⟩
            split
            · exact ⟨by omega, by omega, .inl rfl, .inl ⟨rfl, by omega⟩⟩
            · exact ⟨by omega, by omega, .inr rfl, .inr ⟨rfl, by omega⟩⟩
          rw [← ev]
          refine ⟨_, _, _, _, _, _, _, ys.set ib v, rfl, fun b o z => by rw [upd_ne (ne_of_none z nF)]; exact (s5.trans s58) b o z, ?_, by rw [upd_ne hOF]; exact s58 _ _ hO5, ab.set y2 vb, ?_, ?_, ?_, ?_⟩
          · rw [upd_same, List.map_set]
          · intro k hk
            by_cases e : ib = k
            · subst e
              refine ⟨_, .int v, List.getElem?_eq_getElem hib, by rw [List.map_set, List.getElem?_set_self (by rw [List.length_map]; omega)], ?_⟩
              rcases vor with rfl | rfl
              · exact decide_eq_true u3
              · obtain ⟨p, x, g1, g2, g3⟩ := ony ib hk
                cases (List.getElem?_eq_getElem hib).symm.trans g1
                cases x2.symm.trans g2
                exact g3
            · obtain ⟨p, x, g1, g2, g3⟩ := ony k hk
              exact ⟨p, x, g1, by rw [List.map_set, List.getElem?_set_ne e]; exact g2, g3⟩
          · intro y hy
            rcases List.mem_or_eq_of_mem_set hy with h | rfl
            · have := bigy y h
              omega
            · rcases vor with rfl | rfl <;> omega
          · intro e k hk
            have e2 := ab.back y2 vb e
            rcases Nat.lt_or_eq_of_le (Nat.le_of_lt_succ hk) with lt | rfl
            · exact fix e2 k lt
            · have zv : zb = v := by
                have q : xs[ib]? = some v := by rw [← e, List.getElem?_set_self (by omega)]
                rw [← e2, y2] at q
                exact Option.some.inj q
              rw [← e2]
              exact ⟨_, za, zb, List.getElem?_eq_getElem hjr, ⟨ia, ib, n1, n2, x1, x2⟩, by omega⟩
          · intro zs tz
            rcases vgt with ⟨rfl, lt⟩ | ⟨rfl, le⟩
            · exact ⟨(lapR zs tz lt).1, .inr (lapR zs tz lt).2⟩
            · rw [set_self y2]
              exact ⟨lapU zs tz le, (lapy zs tz).2⟩
        · rintro σ H5 ⟨v5, v6, v7, v8, v9, v10, v11, ys, rfl, s5, hF5, hO5, ab, ony, bigy, fix, lapy⟩
          rw [List.length_map, h5.1] at bigy fix lapy
          refine ⟨_, rfl, _, rfl, .list (xs.map PyData.int), .list (ys.map PyData.int), .lst (SqL.of hO5) (dpAll_ints _), .lst (SqL.of hF5) (dpAll_ints _), shaped_ints _, shaped_ints _, _, rfl, ?_⟩
          rw [eqv_ints]
          by_cases e : xs = ys
          · rw [decide_eq_true e]
            refine iteT ?_
            refine ⟨_, rfl, F0, _, rfl, .inl ⟨SqL.of hF5, fun tt ntt => k1 _ _ (s5.trans (same_new ntt)) (.inr ⟨tt, ys, rfl, upd_same, ⟨by rw [ab.len, lx], ony, ?_, fun x hx => ?_, fun x hx => ?_⟩⟩)⟩⟩
            · rw [← e]
              exact fix e.symm
            · have := bigy x hx
              omega
            · have := bigy x hx
              omega
          · rw [decide_eq_false e]
            exact iteF ⟨_, _, _, _, _, _, _, _, _, ys, rfl, s5, hF5, by rw [ab.len, lx], ony, fun y hy => by have := bigy y hy; omega, fun zs tz => ⟨(lapy zs tz).1.next (fun k i' j' l' ⟨r, g1, _⟩ => (List.getElem?_eq_some_iff.mp g1).1), .inr (by
              rcases (lapy zs tz).2 with z | z
              · exact absurd z.symm e
              · omega)⟩⟩
      · rintro σ H3 ⟨v3, v4, v5, v6, v7, v8, v9, v10, v11, xs, rfl, s3, hF, lx, on, big, lap⟩
        refine k1 _ _ s3 (.inl ⟨rfl, fun ⟨zs, tz⟩ => ?_⟩)
        rcases (lap zs tz).2 with z | z <;> omega
end
end K07
namespace Rt
open PySem PySem.Spec L2
open PyProof.Rows hiding St
/-! ### methods and makers as the top has left them -/
structure MAt (K : PySem.W.Frag) (C : Addr) (m qual : Str) (st : Stmt) : Prop where
  ex : ∃ (f : Addr) (fd : FuncData), Meth K C m f ∧ Fun K m qual st f fd
structure MkAt (K : PySem.W.Frag) (mg : Str → Option Value) (x : Str) (C : Addr) (qual : Str) (st : Stmt) : Prop where
  ex : ∃ (f : Addr) (fd : FuncData), L2.Mk K C f ∧ mg x = some (.ref C) ∧ Fun K "__init__" qual st f fd
section
variable {P : Program} {w : World} {K : PySem.W.Frag} {mg : Str → Option Value} {base h : Heap} {x m qual : Str} {st : Stmt} {C : Addr}
theorem mat_mk {f : Addr} {oc kV dc pm cd ct : Value} {od an : Option Addr} {sl : Array (Option Value)} (a : PySem.W.findIn K (.ref C) m = some (some (.ref f))) (i : PySem.W.isFn K (.ref f) = true)
    (l : K.lookup f = some ⟨oc, od, .func (PySem.W.fnOf m qual (defArgs st) (defBody st) (defScope st) .none kV dc pm an cd ct), sl⟩) (c : PySem.W.codeIn K cd qual = true) (k : PySem.W.keepIn K (.ref f) = true) : MAt K C m qual st :=
  ⟨f, _, ⟨a, i, k⟩, fun_mk l c k⟩
theorem mkat_mk {f : Addr} {oc kV dc pm cd ct : Value} {od an : Option Addr} {sl : Array (Option Value)} (X : K.In h) (G : h.Ns mainGlobals mg) (n : PySem.W.nsIn K mainGlobals x = some (some (.ref C))) (mk : PySem.W.makesIn K C = true) (kc : PySem.W.keepIn K (.ref C) = true)
    (a : PySem.W.findIn K (.ref C) "__init__" = some (some (.ref f))) (i : PySem.W.isFn K (.ref f) = true)
    (l : K.lookup f = some ⟨oc, od, .func (PySem.W.fnOf "__init__" qual (defArgs st) (defBody st) (defScope st) .none kV dc pm an cd ct), sl⟩) (c : PySem.W.codeIn K cd qual = true) (k : PySem.W.keepIn K (.ref f) = true) : MkAt K mg x C qual st :=
  ⟨f, _, ⟨mk, a, i, kc⟩, PySem.W.mg_of X G n, fun_mk l c k⟩
theorem MAt.md {k : Nat} {ps : List Str} {sp : Sp} (A : MAt K C m qual st) (ok : ∀ (f : Addr) (fd : FuncData), Fun K m qual st f fd → FnOk P w K mg base CX0 k f fd ps sp)
    (bd : ∀ (f : Addr) (fd : FuncData), Fun K m qual st f fd → Binds K fd ps []) : Md P w K mg base k C m sp := by
  obtain ⟨f, fd, h, F⟩ := A.ex
  exact ⟨f, fd, ps, h, ok f fd F, bd f fd F⟩
theorem MkAt.mkr {k : Nat} {ps : List Str} {sp : Sp} (A : MkAt K mg x C qual st) (ok : ∀ (f : Addr) (fd : FuncData), Fun K "__init__" qual st f fd → FnOk P w K mg base CX0 k f fd ps sp)
    (bd : ∀ (f : Addr) (fd : FuncData), Fun K "__init__" qual st f fd → Binds K fd ps []) : Mkr P w K mg base k C x sp := by
  obtain ⟨f, fd, h, n, F⟩ := A.ex
  exact ⟨f, fd, ps, h, n, ok f fd F, bd f fd F⟩
end
end Rt
namespace Rt
open PySem PySem.Spec L2
open PyProof.Rows hiding St
/-! ### == and != by a class's own methods -/
def rOwn (C : Addr) (sp : Sp) : R2 := fun x y H Q => ∃ (a b dx dy : Addr) (fs gs : List (Str × V)), x = .ref a ∧ y = .ref b ∧ H a = some (.ins C dx fs) ∧ H b = some (.ins C dy gs) ∧ sp [.ref a, .ref b] H (fun v H' => ∃ c : Bool, v = .bl c ∧ Q (.bl c) H') E0
section
variable {X : Cx} {k j : Nat} {C : Addr} {sp : Sp}
theorem rc_own {op : CmpOp} {m : Str} (hm : (cmpInfo op).2.1 = m) (M : Md X.prog X.w X.K X.mg X.base k C m sp) (hr : Room j X.A) (hk : k ≤ j) {pins : List (Addr × Obj)} {s : Shared} {σ : L2.St} {H : Hp} {x y : V} {u v : Value} {Q : VK}
    (I : Inv X pins σ H s) (rx : L2.RelV x u) (ry : L2.RelV y v) (d : rOwn C sp x y H Q) : wpAny (model X.prog X.w) X.A (richCompare op u v) (EP X pins σ Q) X.xe s := by
  obtain ⟨a, b, dx, dy, fs, gs, rfl, rfl, ha, hb', hsp⟩ := d
  obtain ⟨f, fd, ps, mt, F, hb⟩ := M.ex
  cases rx
  cases ry
  obtain ⟨mA, J, _⟩ := ins_get I.hok ha
  obtain ⟨mB, J', _⟩ := ins_get I.hok hb'
  obtain ⟨od, J, _⟩ := J.look
  obtain ⟨od', J', _⟩ := J'.look
  obtain ⟨mm, hF⟩ := I.fr
  have hr' := hr.mono hk
  refine PySem.W.cmp_K (op := op) (tb := .ref C) hr'.units0 hF I.ok.mod.kin J J'.type (by simp [PySem.W.notFirst]) (by rw [hm]; exact mt.at_) mt.fn ?_
  have hl := F.len _ _ _ _ hsp
  have r2 : Vals [V.ref a, V.ref b] [Value.ref a, Value.ref b] := .cons rfl (.cons rfl .nil)
  refine wpAny_call (codeAny_mono (F.run X.A X.stack s H ⟨[.ref a, .ref b], []⟩ [.ref a, .ref b] [.ref a, .ref b] _ E0 hr' I.env0 (by
    have := hb s [.ref a, .ref b] I.kIn (by simpa using hl)
    simpa using this) r2 hsp) fun r s' hq => ?_)
  cases r with
  | error e => exact False.elim hq
  | ok fl =>
    cases fl with
    | ret w =>
      obtain ⟨z, H', I', rz, c, rfl, q⟩ := I.after hq
      cases rz
      exact ⟨.bl c, H', I', rfl, q⟩
    | next => exact False.elim hq
    | brk => exact False.elim hq
    | cont => exact False.elim hq
theorem op_ownEq (M : Md X.prog X.w X.K X.mg X.base k C "__eq__" sp) (hr : Room j X.A) (hk : k ≤ j) : OpR X (compareOp .Eq) (rOwn C sp) := by
  intro pins s σ H x y v u Q I rx ry hq
  show wpAny (model X.prog X.w) X.A (richCompare .Eq v u) (EP X pins σ Q) X.xe s
  exact rc_own rfl M hr hk I rx ry hq
theorem op_ownNe (M : Md X.prog X.w X.K X.mg X.base k C "__ne__" sp) (hr : Room j X.A) (hk : k ≤ j) : OpR X (compareOp .NotEq) (rOwn C sp) := by
  intro pins s σ H x y v u Q I rx ry hq
  show wpAny (model X.prog X.w) X.A (richCompare .NotEq v u) (EP X pins σ Q) X.xe s
  exact rc_own rfl M hr hk I rx ry hq
end
/-! ### list(range(a, b, c)) -/
def rgC (a c : Int) (n : Nat) : List V := (List.range n).map fun i => V.int (a + (i : Nat) * c)
theorem rgC_length (a c : Int) (n : Nat) : (rgC a c n).length = n := by unfold rgC; rw [List.length_map, List.length_range]
theorem vals_rgC {a c : Int} {n : Nat} {acc : Array Value} (h : ItemsOf (fun i v => ∃ t, v = .int (a + i * c) t) acc n) : Vals (rgC a c n) acc.toList := by
  have e : acc.toList.length = n := by rw [Array.length_toList]; exact h.1
  unfold rgC
  rw [← e]
  refine vals_of_get acc.toList _ fun j u hj => ?_
  obtain ⟨t, rfl⟩ := h.2 j u (by rw [← hj, Array.getElem?_toList])
  exact ⟨t, rfl⟩
def tLstRg3 (ta : TA) : TE := fun σ H Q => ta σ H fun vs H1 => ∃ (i j c : Int) (n : Nat), vs = [.int i, .int j, .int c] ∧ RgC i j c n ∧ n ≤ 2 ^ 23 ∧ ∀ q, H1 q = none → Q (.ref q) (upd H1 q (.lst (rgC i c n)))
section
variable {X : Cx} {a b c : Expr} {ta : TA} {p pos p2 pos2 : Pos}
theorem pe_listRg3 (hc : X.calm = true) (hg : Gl X "list") (hm : X.mg "list" = none) (hg2 : Gl X "range") (hm2 : X.mg "range" = none) (ha : PA X [a, b, c] ta)
    (hs : starEach [a, b, c] X.env = (false, eval a X.env) :: starEach [b, c] X.env := by rfl) (hpl : (backTo pos (starEach [b, c] X.env)).any (·.1) = false := by rfl)
    (na : starEach [.Call (.Name "range" p) [a, b, c] [] pos] X.env = (false, eval (.Call (.Name "range" p) [a, b, c] [] pos) X.env) :: starEach [] X.env := by rfl) :
    PE X (.Call (.Name "list" p2) [.Call (.Name "range" p) [a, b, c] [] pos] [] pos2) (tLstRg3 ta) := by
  refine ⟨fun pins s σ H Q I h => ?_⟩
  have inner : wpAny (model X.prog X.w) X.A (eval (.Call (.Name "range" p) [a, b, c] [] pos) X.env) (fun x s' => ∃ r i j k n t u v H', x = .ref r ∧ IsRange s'.heap r i j k t u v ∧ Inv X pins σ H' s' ∧ RgC i j k n ∧ n ≤ 2 ^ 23 ∧ ∀ q, H' q = none → Q (.ref q) (upd H' q (.lst (rgC i k n)))) X.xe s := by
    refine Call_ (ld_blt I hg2 hm2 boot_range (PyProof.Rows.callWith_type1 (thn (ha.run pos pins s σ H _ I h) fun us s1 ⟨vs, H1, I1, r1, q1⟩ => ?_) hs hpl))
    obtain ⟨i, j, k, n, e, ⟨c0, c1, c2, c3⟩, c4, q⟩ := q1
    subst e
    cases r1 with
    | cons r rr =>
      cases rr with
      | cons r' rr =>
        cases rr with
        | cons r'' rr =>
          cases rr
          obtain ⟨t, rfl⟩ := r
          obtain ⟨t', rfl⟩ := r'
          obtain ⟨t'', rfl⟩ := r''
          refine call_range_3 c0 ?_ (.inl (PyProof.noPylong_small c1))
          exact ⟨_, i, j, k, n, _, _, _, H1, rfl, IsRange.new _ _ _ _ _ _ _, I1.kept (t' := s1.toks) fun b o e => Heap.get?_push_of_some _ e, ⟨c0, c1, c2, c3⟩, c4, q⟩
  refine Call_ (ld_blt I hg hm boot_list (PyProof.Rows.callWith_type1 (args_cons (thn inner fun x s1 ⟨r, i, j, k, n, t, u, v, H1, ex, hr, I1, ok, le, q⟩ => args_nil ?_) na) na))
  subst ex
  obtain ⟨b1, b2, b3, b4⟩ := ok
  refine call_list_range (n := n) (I1.ok.hd hc) hr b3 b4 (Nat.le_trans le (by decide)) fun h' tk acc c' hk e' hi => ?_
  refine ⟨.ref s1.heap.objs.size, upd H1 s1.heap.objs.size (.lst (rgC i k n)), I1.laid hk (Nat.le_refl _) (show ObjOk X.prog X.w _ _ _ (.lst (rgC i k n)) from ⟨?_, acc.toList, c', vals_rgC hi, ?_⟩), rfl, q _ (I1.hok.fresh (Nat.le_refl _))⟩
  · rw [rgC_length, sizeLine_eq]; omega
  · rw [Array.toArray_toList]; exact e'
end
end Rt
namespace Rt
open PySem PySem.Spec L2
open PyProof.Rows hiding St
/-! ### a comprehension with two for, over any walks -/
section
variable {J J1 : It} {n n1 : Nat} {G G1 : Hp → Prop} {Y Y1 : Nat → Hp → V → Hp → Prop}
theorem lc2_it (wk : Walk J n G Y) {g g1 : TG} {tt tt1 : TT} {wi1 : TI} {te : TE} {vs vs1 : List Nat} {σ : L2.St} {H1 : Hp} {D : Addr} {Qd : Hp → Prop} (Pv : Nat → Hp → Prop) (start : Pv 0 (upd H1 D (.lst []))) (good : ∀ i H, i ≤ n → Pv i H → G H)
    (turn : ∀ i x H H', i < n → Pv i H → Y i H x H' → g x (wipe σ vs) H' fun σ2 H2 => wipe σ2 vs = wipe σ vs ∧ tt σ2 H2 fun b H3 =>
      if b = true then wi1 σ2 H3 fun J1 H4 => ∃ W1 : Nat → Nat → Hp → Prop, (∃ m, W1 0 m H4) ∧ ∀ j k H, W1 j k H →
        (J1.stop j H ∧ Pv (i + 1) H) ∨ (J1.go j H ∧ ∃ Nx1 : Hp → Prop, (∀ H', Nx1 H' → ∃ k', k' < k ∧ W1 (j + 1) k' H') ∧ ∀ x H', J1.yld j H x H' → g1 x (wipe σ2 vs1) H' fun σ3 H5 => wipe σ3 vs1 = wipe σ2 vs1 ∧ tt1 σ3 H5 fun b H6 =>
          if b = true then te σ3 H6 fun y H7 => ∃ acc, H7 D = some (.lst acc) ∧ acc.length < sizeLine ∧ Nx1 (upd H7 D (.lst (acc ++ [y]))) else Nx1 H6)
      else Pv (i + 1) H3) (fin : ∀ H, Pv n H → Qd H) :
    ∃ W : Nat → Nat → Hp → Prop, (∃ m, W 0 m (upd H1 D (.lst []))) ∧ ∀ i m H, W i m H →
      (J.stop i H ∧ Qd H) ∨ (J.go i H ∧ ∃ Nx : Hp → Prop, (∀ H', Nx H' → ∃ m', m' < m ∧ W (i + 1) m' H') ∧ ∀ x H', J.yld i H x H' → g x (wipe σ vs) H' fun σ2 H2 => wipe σ2 vs = wipe σ vs ∧ tt σ2 H2 fun b H3 =>
        if b = true then wi1 σ2 H3 fun J1 H4 => ∃ W1 : Nat → Nat → Hp → Prop, (∃ m, W1 0 m H4) ∧ ∀ j k H, W1 j k H →
          (J1.stop j H ∧ Nx H) ∨ (J1.go j H ∧ ∃ Nx1 : Hp → Prop, (∀ H', Nx1 H' → ∃ k', k' < k ∧ W1 (j + 1) k' H') ∧ ∀ x H', J1.yld j H x H' → g1 x (wipe σ2 vs1) H' fun σ3 H5 => wipe σ3 vs1 = wipe σ2 vs1 ∧ tt1 σ3 H5 fun b H6 =>
            if b = true then te σ3 H6 fun y H7 => ∃ acc, H7 D = some (.lst acc) ∧ acc.length < sizeLine ∧ Nx1 (upd H7 D (.lst (acc ++ [y]))) else Nx1 H6)
        else Nx H3) := by
  refine ⟨fun i m H => m + i = n ∧ Pv i H, ⟨n, rfl, start⟩, fun i m H ⟨e, p⟩ => ?_⟩
  have q := good i H (by omega) p
  rcases Nat.lt_or_ge i n with lt | ge
  · exact .inr ⟨wk.goes i H lt q, Pv (i + 1), fun H' p' => ⟨m - 1, by omega, by omega, p'⟩, fun x H' y => turn i x H H' lt p (wk.yields i H x H' lt q y)⟩
  · obtain rfl : i = n := by omega
    exact .inl ⟨wk.stops H q, fin H p⟩
theorem in_it (wk : Walk J1 n1 G1 Y1) {g1 : TG} {tt1 : TT} {te : TE} {vs1 : List Nat} {σ2 : L2.St} {H4 : Hp} {D : Addr} {Nx : Hp → Prop} (Pv : Nat → Hp → Prop) (start : Pv 0 H4) (good : ∀ i H, i ≤ n1 → Pv i H → G1 H)
    (turn : ∀ i x H H', i < n1 → Pv i H → Y1 i H x H' → g1 x (wipe σ2 vs1) H' fun σ3 H5 => wipe σ3 vs1 = wipe σ2 vs1 ∧ tt1 σ3 H5 fun b H6 =>
      if b = true then te σ3 H6 fun y H7 => ∃ acc, H7 D = some (.lst acc) ∧ acc.length < sizeLine ∧ Pv (i + 1) (upd H7 D (.lst (acc ++ [y]))) else Pv (i + 1) H6) (fin : ∀ H, Pv n1 H → Nx H) :
    ∃ W1 : Nat → Nat → Hp → Prop, (∃ m, W1 0 m H4) ∧ ∀ j k H, W1 j k H →
      (J1.stop j H ∧ Nx H) ∨ (J1.go j H ∧ ∃ Nx1 : Hp → Prop, (∀ H', Nx1 H' → ∃ k', k' < k ∧ W1 (j + 1) k' H') ∧ ∀ x H', J1.yld j H x H' → g1 x (wipe σ2 vs1) H' fun σ3 H5 => wipe σ3 vs1 = wipe σ2 vs1 ∧ tt1 σ3 H5 fun b H6 =>
        if b = true then te σ3 H6 fun y H7 => ∃ acc, H7 D = some (.lst acc) ∧ acc.length < sizeLine ∧ Nx1 (upd H7 D (.lst (acc ++ [y]))) else Nx1 H6) := by
  refine ⟨fun i m H => m + i = n1 ∧ Pv i H, ⟨n1, rfl, start⟩, fun i m H ⟨e, p⟩ => ?_⟩
  have q := good i H (by omega) p
  rcases Nat.lt_or_ge i n1 with lt | ge
  · exact .inr ⟨wk.goes i H lt q, Pv (i + 1), fun H' p' => ⟨m - 1, by omega, by omega, p'⟩, fun x H' y => turn i x H H' lt p (wk.yields i H x H' lt q y)⟩
  · obtain rfl : i = n1 := by omega
    exact .inl ⟨wk.stops H q, fin H p⟩
end
theorem pi_listK {X : Cx} {K : PySem.W.Frag} {tg l : Expr} {tl : TE} (hK : X.K = K) (hl : PE X l tl) : PI X tg l (iList K tl) := by
  subst hK
  exact pi_list hl
/-! ### dicts that are written with different keys -/
theorem putK_new : ∀ {kvs : List (Key × V)} {k : Key} {v : V}, (∀ x, x ∈ kvs → x.1 ≠ k) → putK kvs k v = kvs ++ [(k, v)] := fun {kvs k v} h => by
  unfold putK
  rw [if_neg]
  intro z
  obtain ⟨x, hx, e⟩ := List.any_eq_true.mp z
  exact h x hx (of_decide_eq_true e)
theorem merge_app : ∀ (more kvs : List (Key × V)), (∀ x, x ∈ more → ∀ y, y ∈ kvs → y.1 ≠ x.1) → (more.map (·.1)).Nodup → mergeK kvs more = kvs ++ more
  | [], kvs, _, _ => by unfold mergeK; simp
  | x :: more, kvs, h, nd => by
    have nd' := List.nodup_cons.mp nd
    have e : mergeK kvs (x :: more) = mergeK (putK kvs x.1 x.2) more := rfl
    rw [e, putK_new (h x List.mem_cons_self), merge_app more _ (fun z hz y hy => ?_) nd'.2, List.append_assoc]
    · rfl
    · rcases List.mem_append.mp hy with q | q
      · exact h z (List.mem_cons_of_mem _ hz) y q
      · cases List.mem_singleton.mp q
        intro e2
        exact nd'.1 (List.mem_map.mpr ⟨z, hz, e2.symm⟩)
theorem merge_keys {kvs : List (Key × V)} (nd : (kvs.map (·.1)).Nodup) : mergeK [] kvs = kvs := by
  rw [merge_app kvs [] (fun _ _ _ h => nomatch h) nd]
  rfl
end Rt
namespace Rt
open PySem PySem.Spec L2
open PyProof.Rows hiding St
/-! ### i if c else j, of two ints -/
def tIfI (t : TT) (i j : Int) : TE := fun σ H Q => t σ H fun c H1 => Q (.int (if c = true then i else j)) H1
theorem pe_ifInt {X : Cx} {c : Expr} {tA : TT} {i j : Int} {k1 k2 : Nat} {q1 q2 pos : Pos} (hc : PT X c tA) : PE X (.IfExp c (.Constant (.int i) k1 q1) (.Constant (.int j) k2 q2) pos) (tIfI tA i j) := by
  have h := pe_ifExp (pos := pos) hc (pe_int (X := X) (i := i) (j := k1) (pos := q1)) (pe_int (X := X) (i := j) (j := k2) (pos := q2))
  have e : tIfI tA i j = tIf tA (tC (V.int i)) (tC (V.int j)) := by
    funext σ H Q
    unfold tIfI tIf tC
    congr 1
    funext c H1
    cases c <;> rfl
  rw [e]
  exact h
end Rt
namespace Rt
open PySem PySem.Spec L2
open PyProof.Rows hiding St
/-! ### slots, written out anew -/
theorem name_step {i : Nat} {v : V} {σ σ' : L2.St} {H : Hp} {Q : L2.St → Hp → Prop} (h : σ.set i (some v) = σ') (k : Q σ' H) : gName i v σ H Q := by
  subst h
  exact k
end Rt
namespace Rt
open PySem PySem.Spec L2
open PyProof.Rows hiding St
/-! ### methods of lists and len in comprehensions: the world of the element is not named in what they ask -/
theorem pe_bmK {X : Cx} {K : PySem.W.Frag} {o e : Expr} {es : List Expr} {to : TE} {t : TA} {name : Str} {apos cpos : Pos} {T id : String} {r : V → List V → Hp → VK → Prop} (hK : X.K = K) (pa : PlainAttrs T) (slot : Slot T name id) (hty : typeOf (.builtin id) = pure (.type "method_descriptor")) (hm : MtR X id r) (ho : PE X o to) (ha : PA X (e :: es) t)
    (hbase : attributeBase o name X.env (eval o X.env) = eval o X.env := by rfl)
    (hfew : ((backTo cpos (starEach (e :: es) X.env)).all (fun x => !x.1) && (backToKw cpos (keywordEach [] X.env)).all (fun x => x.1.isSome)
      && decide ((e :: es).length + ([] : List Keyword).length + (if ([] : List Keyword).isEmpty then 0 else 1) < 30)) = true := by rfl)
    (hline : (apos.endLine == cpos.line) = true := by rfl) (hs : starEach (e :: es) X.env = (false, eval e X.env) :: starEach es X.env := by rfl) (hplain : (backTo cpos (starEach es X.env)).any (·.1) = false := by rfl) :
    PE X (.Call (.Attribute o name apos) (e :: es) [] cpos) (tBM K T r to t) := by
  subst hK
  exact pe_bm pa slot hty hm ho ha hbase hfew hline hs hplain
def rLenS (K : PySem.W.Frag) : List V → Hp → VK → Prop := fun xs H Q => ∃ p ys, xs = [V.ref p] ∧ (SqL K H p ys ∨ SqT K H p ys) ∧ Q (.int ((ys.length : Nat) : Int)) H
theorem call_lenK {X : Cx} {K : PySem.W.Frag} (hK : X.K = K) : CallR X (.builtin "len") (rLenS K) := by
  subst hK
  exact call_len_seq
end Rt
namespace Rt
open PySem PySem.Spec L2
open PyProof.Rows hiding St
/-! ### for over what is a list or a tuple -/
def seqR (K : PySem.W.Frag) (R : It → Hp → Prop) (a : Addr) (H : Hp) : Prop := ((∃ xs, SqL K H a xs) ∧ R (Itl K a) H) ∨ ((∃ xs, SqT K H a xs) ∧ R (Itt K a) H)
def iSeq (K : PySem.W.Frag) (tl : TE) : TI := fun σ H R => tl σ H fun x H1 => ∃ a, x = .ref a ∧ seqR K R a H1
theorem pi_seq {X : Cx} {tg l : Expr} {tl : TE} (hl : PE X l tl) : PI X tg l (iSeq X.K tl) := by
  refine ⟨fun pins s σ H R I h => ?_⟩
  refine thn (hl.run pins s σ H _ I h) fun v s1 ⟨x, H1, I1, r1, q1⟩ => ?_
  obtain ⟨a, e, q1⟩ := q1
  subst e
  cases r1
  rcases q1 with ⟨⟨xs, hq⟩, q⟩ | ⟨⟨xs, hq⟩, q⟩
  · obtain ⟨its, rv, p, hz⟩ := I1.list hq
    refine wpAny_pyIter_list p.isList ?_
    refine ⟨s1.heap.objs.size, [s1.heap.objs.size], _, _, H1, rfl, I1.kept (t' := s1.toks) fun b o e => Heap.get?_push_of_some _ e, turn_list a _, ⟨_, Heap.get?_push_size _ rfl, rfl, rfl⟩, fun b hb => ?_, q⟩
    have e : b = s1.heap.objs.size := by simpa using hb
    subst e
    exact I1.fpOk (Nat.le_refl _) (I1.hok.fresh (Nat.le_refl _))
  · obtain ⟨its, rv, p, hz⟩ := I1.tuple hq
    refine wpAny_pyIter_tuple (show s1.heap.IsTuple a its.toArray from p) ?_
    refine ⟨s1.heap.objs.size, [s1.heap.objs.size], _, _, H1, rfl, I1.kept (t' := s1.toks) fun b o e => Heap.get?_push_of_some _ e, turn_tuple a _, ⟨_, Heap.get?_push_size _ rfl, rfl, rfl⟩, fun b hb => ?_, q⟩
    have e : b = s1.heap.objs.size := by simpa using hb
    subst e
    exact I1.fpOk (Nat.le_refl _) (I1.hok.fresh (Nat.le_refl _))
end Rt
namespace K07
open PySem PySem.Spec L2 Rt
open PyProof.Rows hiding St

abbrev sPUp : Stmt := top 15
abbrev sIsNum : Stmt := top 13
abbrev sEnd : Stmt := top 17
/-! ### walks -/
def wend (rs : List Rl) : Str → List V → Option Str
  | x, [] => some x
  | x, .int i :: vs => if 0 ≤ i then match rs[i.toNat]? with
    | some r => if r.1 = x then wend rs r.2.1 vs else none
    | none => none
    else none
  | _, _ :: _ => none
def endV (o : Option Str) : V := match o with
  | some y => .str y
  | none => .non
def isN : V → Bool
  | .int i => decide (0 ≤ i)
  | _ => false
def spPUp : Sp := fun vs H Q _ => ∃ (t : Addr) (f s x : Int), vs = [.ref t, .int x] ∧ H t = some (.tup [.int f, .int s]) ∧ 0 < s ∧ Q (.int (x + (f - x) % s)) H
def spIsNum : Sp := fun vs H Q _ => ∃ v, vs = [v] ∧ Od H v ∧ Q (.bl (isN v)) H
def spEnd (K : PySem.W.Frag) (C : Addr) : Sp := fun vs H Q _ => ∃ (a : Addr) (x : Str) (v : V) (ps : List Pt) (rs : List Rl) (xo : Option (List V)), vs = [.ref a, .str x, v] ∧ NetAt H C a ps rs ∧ Jd K H v xo ∧
  ∀ H', Same H H' → Q (endV (xo.bind (wend rs x))) H'
section
variable {P : Program} {w : World} {K : PySem.W.Frag} {mg : Str → Option Value} {base : Heap} {f C : Addr} {fd : FuncData}
theorem scPUp : FnScope ["clock", "x", "first", "step"] ["clock", "x"] (defScope sPUp) := ⟨rfl, rfl, rfl, by decide +kernel, rfl, by decide +kernel, by decide +kernel⟩
theorem ok_pup (F : Fun K "up" "up" sPUp f fd) : FnOk P w K mg base CX0 1 f fd ["clock", "x"] spPUp := by
  refine F.ok scPUp (fun vs H Q E h => ?_) (fun cdv A outer s H vs Q E hr h => ?_)
  · obtain ⟨t, f, s, x, rfl, _⟩ := h
    rfl
  · obtain ⟨t, f, s, x, rfl, ht, s0, k⟩ := h
    refine ⟨_, (pss_cons (ps_asg (pv 0) (pg_tup (by rfl) (pgs_cons (pg_name (i := 2) scPUp.nd rfl (.inl rfl)) (pgs_cons (pg_name (i := 3) scPUp.nd rfl (.inl rfl)) pgs_nil))))
      (pss_one (ps_ret (pe_op op_add (pv 1) (pe_op op_mod (pe_op op_sub (pv 2) (pv 1)) (pv 3)))))), ?_⟩
    refine ⟨_, rfl, t, _, rfl, SqT.of ht, rfl, _, _, rfl, _, _, rfl, rfl, ?_⟩
    refine ⟨_, rfl, _, rfl, _, rfl, _, _, rfl, rfl, _, rfl, _, _, rfl, rfl, s0, _, _, rfl, rfl, ?_⟩
    exact k
theorem scIsNum : FnScope ["value"] ["value"] (defScope sIsNum) := ⟨rfl, rfl, rfl, by decide +kernel, rfl, by decide +kernel, by decide +kernel⟩
theorem ok_isNum (F : Fun K "is_number" "is_number" sIsNum f fd) (isInt : Cf P w K mg base 1 "is_integer" spIsInt) : FnOk P w K mg base CX0 2 f fd ["value"] spIsNum := by
  refine F.ok scIsNum (fun vs H Q E h => ?_) (fun cdv A outer s H vs Q E hr h => ?_)
  · obtain ⟨v, rfl, _⟩ := h
    rfl
  · obtain ⟨v, rfl, ho, k⟩ := h
    refine ⟨_, (pss_one (ps_ret (pe_and (pe_f isInt hr (by decide) (by rfl) (pa_cons (pv 0) pa_nil)) (pe_one (pe_cmpR op_ge (pv 0) pe_int (nomark _)))))), ?_⟩
    refine ⟨_, rfl, v, rfl, ho, _, rfl, ?_⟩
    cases v with
    | int i => exact iteT ⟨_, rfl, _, _, rfl, rfl, k⟩
    | _ => exact iteF k
theorem scEnd : FnScope ["network", "name", "rules", "known", "at", "number"] ["network", "name", "rules"] (defScope sEnd) := ⟨rfl, rfl, rfl, by decide +kernel, rfl, by decide +kernel, by decide +kernel⟩
theorem ok_end (F : Fun K "end_of_walk" "end_of_walk" sEnd f fd) (T : Wds mg) (cn : ClsN K C) (M : Meths P w K mg base C) (isNum : Cf P w K mg base 2 "is_number" spIsNum) : FnOk P w K mg base CX0 4 f fd ["network", "name", "rules"] (spEnd K C) := by
  refine F.ok scEnd (fun vs H Q E h => ?_) (fun cdv A outer s H vs Q E hr h => ?_)
  · obtain ⟨a, x, v, ps, rs, xo, rfl, _⟩ := h
    rfl
  · obtain ⟨a, x, v, ps, rs, xo, rfl, net, jd, k⟩ := h
    refine ⟨_, (pss_cons (ps_if (pt_not (pt_val (pe_callB call_isiT (by rfl) T.zisinstance (by decide +kernel) (pa_cons (pv 2) (pa_cons (pe_tup (pa_cons (pe_bltn (v := .ty "list") (by rfl) T.zlist (by decide +kernel) rfl) (pa_cons (pe_bltn (v := .ty "tuple") (by rfl) T.ztuple (by decide +kernel) rfl) pa_nil))) pa_nil))))) (pss_one (ps_ret pe_non)) pss_nil)
      (pss_cons (ps_set (i := 3) scEnd.nd rfl (.inl rfl) (pe_m0' cn.cls M.rules hr (by decide) (pv 0)))
      (pss_cons (ps_set (i := 4) scEnd.nd rfl (.inl rfl) (pv 1))
      (pss_cons (ps_for PassesOwn.never rfl (pi_seq (pv 2)) (pg_name (i := 5) scEnd.nd rfl (.inl rfl))
        (pss_cons (ps_if (PW.pt (pw_or (pt_not (pt_val (pe_f isNum hr (by decide) (by rfl) (pa_cons (pv 5) pa_nil)))) (pw_or (pt_cmpR op_ge (pv 5) (pe_callB call_len_seq (by rfl) T.zlen (by decide +kernel) (pa_cons (pv 3) pa_nil)) (nomark _)) (pw_or1 (pt_cmpR op_ne (pe_ix ix_tup (pe_ix ix_list (pv 3) (pv 5) (fun _ _ => rfl)) pe_int (fun _ _ => rfl)) (pv 4) (nomark _)))))) (pss_one (ps_ret pe_non)) pss_nil)
        (pss_one (ps_set (i := 4) scEnd.nd rfl (.inl rfl) (pe_ix ix_tup (pe_ix ix_list (pv 3) (pv 5) (fun _ _ => rfl)) pe_int (fun _ _ => rfl))))))
      (pss_one (ps_ret (pv 4))))))), ?_⟩
    obtain ⟨dx, fs, hN, look⟩ := net_look net
    refine ⟨_, rfl, (by show 2 ≤ sizeLine; decide), fun tp nt => ?_⟩
    have s2 := same_new (H := H) (o := .tup [.ty "list", .ty "tuple"]) nt
    have jd2 : (xo = none ∧ ∃ T : String, TyX K (upd H tp (.tup [.ty "list", .ty "tuple"])) v (.type T) ∧ PySem.W.kitAny K (.type T) [.type "list", .type "tuple"] = some false) ∨
        ∃ (q : Addr) (xs : List V), v = .ref q ∧ xo = some xs ∧ Row2 H q xs ∧ ∀ x, x ∈ xs → Od H x := by
      cases jd with
      | no ty kk => exact .inl ⟨rfl, _, ty _ s2, kk⟩
      | lst h o => exact .inr ⟨_, _, rfl, rfl, .inl h, o⟩
      | tup h o => exact .inr ⟨_, _, rfl, rfl, .inr h, o⟩
    rcases jd2 with ⟨rfl, T1, ty, kk⟩ | ⟨q, xs, rfl, rfl, hq, od⟩
    · refine ⟨_, tp, _, .type T1, _, false, rfl, upd_same, .cons (.ty _) (.cons (.ty _) .nil), ty, kk, false, rfl, iteT ?_⟩
      exact k _ s2
    have hq2 := hq.same s2
    obtain ⟨T1, ty, kk⟩ := hq2.type (K := K)
    refine ⟨_, tp, _, .type T1, _, true, rfl, upd_same, .cons (.ty _) (.cons (.ty _) .nil), ty, kk, true, rfl, iteF ?_⟩
    revert s2 hq2
    generalize upd H tp (.tup [.ty "list", .ty "tuple"]) = H1
    intro s2 hq2
    refine ⟨_, rfl, a, dx, fs, rfl, s2 _ _ hN, look _ (by decide +kernel) (by decide +kernel) (by decide +kernel), a, ps, rs, rfl, net.same s2, fun L bs H2 nL s3 hL row => ?_⟩
    have s4 := s2.trans s3
    have hq4 := hq2.same s3
    have one : ∃ (J : It) (G : Hp → Prop), Walk J xs.length G (YAt xs) ∧ (∀ H', Same H2 H' → G H') ∧ ∀ R : It → Hp → Prop, R J H2 → seqR K R q H2 := by
      rcases hq4 with h | h
      · exact ⟨_, _, walk_list, fun H' s => SqL.of (s _ _ h), fun R r => .inl ⟨⟨_, SqL.of h⟩, r⟩⟩
      · exact ⟨_, _, walk_tup, fun H' s => SqT.of (s _ _ h), fun R r => .inr ⟨⟨_, SqT.of h⟩, r⟩⟩
    obtain ⟨J, G, wk, good, pick⟩ := one
    refine ⟨_, rfl, _, rfl, q, rfl, pick _ ?_⟩
    refine for_it wk (fun i σ H3 => ∃ (y : Str) (v5 : Option V), σ = [some (.ref a), some (.str x), some (.ref q), some (.ref L), some (.str y), v5] ∧ wend rs x xs = wend rs y (xs.drop i) ∧ Same H2 H3) ⟨x, _, rfl, rfl, fun _ _ z => z⟩ (fun i σ H3 _ ⟨_, _, _, _, z⟩ => good _ z) ?_ ?_
    · rintro i z σ H3x H3 hi ⟨y, v5, rfl, e, s3'⟩ ⟨rfl, hz⟩
      have split : xs.drop i = z :: xs.drop (i + 1) := by
        rw [List.drop_eq_getElem_cons hi]
        rw [List.getElem?_eq_getElem hi] at hz
        rw [Option.some.inj hz]
      have mz : z ∈ xs := List.mem_of_getElem? hz
      have odz : Od H3 z := Od.same (s4.trans s3') (od z mz)
      rw [split] at e
      have q4 := s4.trans s3'
      refine ⟨_, rfl, z, rfl, odz, _, rfl, ?_⟩
      have out : wend rs y (z :: xs.drop (i + 1)) = none → Q .non H3 := fun no => by
        have r := k _ q4
        rw [show (some xs).bind (wend rs x) = none from e.trans no] at r
        exact r
      cases hn : isN z with
      | false =>
        refine iteT (out ?_)
        cases z with
        | int i0 =>
          have neg : ¬ 0 ≤ i0 := of_decide_eq_false hn
          show (if 0 ≤ i0 then _ else none) = none
          rw [if_neg neg]
        | _ => rfl
      | true =>
        obtain ⟨i0, rfl, p0⟩ : ∃ i0 : Int, z = .int i0 ∧ 0 ≤ i0 := by
          cases z with
          | int i0 => exact ⟨i0, rfl, of_decide_eq_true hn⟩
          | _ => cases hn
        refine iteF ?_
        refine ⟨_, rfl, _, rfl, L, _, rfl, .inl (SqL.of (s3' _ _ hL)), _, _, rfl, rfl, _, rfl, ?_⟩
        rw [List.length_map, row.1]
        by_cases go : i0 ≥ (rs.length : Int)
        · rw [decide_eq_true go]
          refine iteT (out ?_)
          show (if 0 ≤ i0 then _ else none) = none
          rw [if_pos p0, List.getElem?_eq_none (by omega)]
        · rw [decide_eq_false go]
          refine iteF ?_
          have hi0 : i0.toNat < rs.length := by omega
          have hb0 : i0.toNat < bs.length := by rw [row.1]; exact hi0
          have pr : H3 bs[i0.toNat] = some (.tup [.str rs[i0.toNat].1, .str rs[i0.toNat].2.1, .int rs[i0.toNat].2.2]) := s3' _ _ (row.2 i0.toNat _ _ (List.getElem?_eq_getElem hb0) (List.getElem?_eq_getElem hi0))
          have at_ : atI (bs.map V.ref) i0 = some (.ref bs[i0.toNat]) := by
            have q := atN (xs := bs.map V.ref) (i := i0.toNat) (x := .ref bs[i0.toNat]) (by rw [List.getElem?_map, List.getElem?_eq_getElem hb0]; rfl)
            rwa [show ((i0.toNat : Nat) : Int) = i0 by omega] at q
          have step : wend rs y (.int i0 :: xs.drop (i + 1)) = if rs[i0.toNat].1 = y then wend rs rs[i0.toNat].2.1 (xs.drop (i + 1)) else none := by
            show (if 0 ≤ i0 then match rs[i0.toNat]? with
              | some r => if r.1 = y then wend rs r.2.1 (xs.drop (i + 1)) else none
              | none => none
              else none) = _
            rw [if_pos p0, List.getElem?_eq_getElem hi0]
          refine ⟨_, rfl, _, rfl, L, _, _, _, rfl, rfl, SqL.of (s3' _ _ hL), at_, bs[i0.toNat], _, _, _, rfl, rfl, SqT.of pr, atN (i := 0) rfl, _, rfl, rfl, _, rfl, ?_⟩
          by_cases same : rs[i0.toNat].1 = y
          · rw [same, decide_eq_true rfl]
            refine iteF ?_
            rw [step, if_pos same] at e
            exact ⟨_, rfl, _, rfl, L, _, _, _, rfl, rfl, SqL.of (s3' _ _ hL), at_, bs[i0.toNat], _, _, _, rfl, rfl, SqT.of pr, atN (i := 1) rfl, _, _, rfl, e, s3'⟩
          · rw [decide_eq_false (show ¬ V.str rs[i0.toNat].1 = V.str y from fun z => same (by cases z; rfl))]
            refine iteT (out ?_)
            rw [step, if_neg same]
    · rintro σ H3 ⟨y, v5, rfl, e, s3'⟩
      rw [List.drop_length] at e
      have e2 : wend rs x xs = some y := e
      have r := k _ (s4.trans s3')
      rw [show (some xs).bind (wend rs x) = some y from e2] at r
      exact ⟨_, rfl, r⟩
end
end K07
namespace K07
open PySem PySem.Spec L2 Rt
open PyProof.Rows hiding St

abbrev sLed : Stmt := top 18
abbrev sMClock : Stmt := inClass (top 26) 5
def ck (ps : List Pt) (x : Str) : Int × Int := ((ps.find? fun p => decide (p.1 = x)).map (·.2)).getD (0, 1)
def ledN (ps : List Pt) (rs : List Rl) : Int → List V → Int
  | v, [] => v
  | v, .int i :: xs => match rs[i.toNat]? with
    | some r => ledN ps rs (upv (ck ps r.2.1).1 (ck ps r.2.1).2 (v + r.2.2)) xs
    | none => v
  | v, _ :: _ => v
theorem ck_at : ∀ {ps : List Pt} {i : Nat} {p : Pt}, (namesOf ps).Nodup → ps[i]? = some p → ck ps p.1 = p.2 := fun {ps i p} nd h => by
  have m : p ∈ ps := List.mem_of_getElem? h
  have u : ∀ q, q ∈ ps → q.1 = p.1 → q = p := fun q mq e => by
    obtain ⟨j, hj⟩ := List.getElem?_of_mem mq
    obtain ⟨hi1, hi2⟩ := List.getElem?_eq_some_iff.mp h
    obtain ⟨hj1, hj2⟩ := List.getElem?_eq_some_iff.mp hj
    have e2 : (namesOf ps)[j]'(by rw [List.length_map]; exact hj1) = (namesOf ps)[i]'(by rw [List.length_map]; exact hi1) := by
      show (ps.map (·.1))[j]'_ = (ps.map (·.1))[i]'_
      rw [List.getElem_map, List.getElem_map, hj2, hi2, e]
    have ij := (List.getElem_inj nd).mp e2
    subst ij
    exact hj2.symm.trans hi2
  unfold ck
  cases f : ps.find? fun q => decide (q.1 = p.1) with
  | none =>
    have z := List.find?_eq_none.mp f p m
    exact absurd (decide_eq_true rfl) z
  | some q =>
    have e : q.1 = p.1 := of_decide_eq_true (p := q.1 = p.1) (List.find?_some (p := fun q : Pt => decide (q.1 = p.1)) f)
    have mq := List.mem_of_find?_eq_some f
    rw [u q mq e]
    rfl
theorem up_eq {f s x : Int} (s0 : 0 < s) : x + (f - x) % s = upv f s x := by
  have h1 := Int.emod_nonneg (f - x) (show s ≠ 0 by omega)
  have h2 := Int.emod_lt_of_pos (f - x) s0
  have e := Int.emod_add_mul_ediv (f - x) s
  have g1 := upv_on f s x
  have g2 := upv_le (f := f) (x := x) s0
  have g3 := upv_lt (f := f) (x := x) s0
  obtain ⟨k, hk⟩ := Int.dvd_of_emod_eq_zero g1
  have d : x + (f - x) % s - upv f s x = s * (-((f - x) / s) - k) := by
    rw [Int.mul_sub, Int.mul_neg, ← hk]
    omega
  have b : -((f - x) / s) - k = 0 := by
    have lo : -s < s * (-((f - x) / s) - k) := by omega
    have hi : s * (-((f - x) / s) - k) < s := by omega
    have l1 : -1 < -((f - x) / s) - k := by
      refine Int.not_le.mp fun z => ?_
      have := Int.mul_le_mul_of_nonneg_left z (show 0 ≤ s by omega)
      omega
    have l2 : -((f - x) / s) - k < 1 := by
      refine Int.not_le.mp fun z => ?_
      have := Int.mul_le_mul_of_nonneg_left z (show 0 ≤ s by omega)
      omega
    omega
  rw [b, Int.mul_zero] at d
  omega
def spMClock (C : Addr) : Sp := fun vs H Q _ => ∃ (a : Addr) (ps : List Pt) (rs : List Rl) (i : Nat) (p : Pt), vs = [.ref a, .str p.1] ∧ NetAt H C a ps rs ∧ (namesOf ps).Nodup ∧ ps[i]? = some p ∧ ∀ (t : Addr) (H' : Hp), Same H H' → H' t = some (.tup [.int p.2.1, .int p.2.2]) → Q (.ref t) H'
def spLed (K : PySem.W.Frag) (C : Addr) : Sp := fun vs H Q _ => ∃ (a : Addr) (x : Str) (n : Int) (v : V) (ps : List Pt) (rs : List Rl) (xs : List V), vs = [.ref a, .str x, .int n, v] ∧ NetAt H C a ps rs ∧ Good ps rs ∧ Jd K H v (some xs) ∧ wend rs x xs ≠ none ∧
  ∀ H', Same H H' → Q (.int (ledN ps rs n xs)) H'
section
variable {P : Program} {w : World} {K : PySem.W.Frag} {mg : Str → Option Value} {base : Heap} {f C : Addr} {fd : FuncData}
theorem scMClock : FnScope ["self", "name"] ["self", "name"] (defScope sMClock) := ⟨rfl, rfl, rfl, by decide +kernel, rfl, by decide +kernel, by decide +kernel⟩
theorem ok_mclock (F : Fun K "clock" "Network.clock" sMClock f fd) (cn : ClsN K C) (index : Md P w K mg base 3 C "index" (spMIndex C)) : FnOk P w K mg base CX0 4 f fd ["self", "name"] (spMClock C) := by
  refine F.ok scMClock (fun vs H Q E h => ?_) (fun cdv A outer s H vs Q E hr h => ?_)
  · obtain ⟨a, ps, rs, i, p, rfl, _⟩ := h
    rfl
  · obtain ⟨a, ps, rs, i, p, rfl, net, nd, ix, k⟩ := h
    refine ⟨_, (pss_one (ps_ret (pe_slice sl_tup (pe_ix ix_tup (pe_fld (pv 0) (by rfl)) (pe_m cn.cls index hr (by decide) (pv 0) (pa_cons (pv 1) pa_nil)) (fun _ _ => rfl)) (po_some pe_int) po_none))), ?_⟩
    obtain ⟨dx, PA, RA, DA, as, bs, h1, h2, h3, h4, h5, h6⟩ := net.ex
    obtain ⟨hi, e⟩ := List.getElem?_eq_some_iff.mp ix
    have hia : i < as.length := by rw [h5.1]; exact hi
    have pa := h5.2 i _ _ (List.getElem?_eq_getElem hia) ix
    have nm : (namesOf ps)[i]? = some p.1 := by
      show (ps.map (·.1))[i]? = _
      rw [List.getElem?_map, ix]
      rfl
    refine ⟨_, rfl, a, C, dx, _, _, rfl, h1, cn.cls, cn.n1, look_p, ?_⟩
    refine ⟨_, rfl, a, dx, _, rfl, h1, look_no (by decide +kernel) (by decide +kernel) (by decide +kernel), _, rfl, a, ps, rs, i, p.1, rfl, net, nd, nm, ?_⟩
    refine ⟨PA, _, _, _, rfl, rfl, SqT.of h2, atN (i := i) (by rw [List.getElem?_map, List.getElem?_eq_getElem hia]; rfl), ?_⟩
    refine ⟨_, rfl, as[i], _, rfl, SqT.of pa, (by show ¬ (HT.sIx 3 0 (some 1) = 0 ∧ HT.sIx 3 3 none = 3); decide), fun u nu => ?_⟩
    exact k u _ (same_new nu) upd_same
theorem scLed : FnScope ["network", "name", "number", "rules", "known", "k", "end"] ["network", "name", "number", "rules"] (defScope sLed) := ⟨rfl, rfl, rfl, by decide +kernel, rfl, by decide +kernel, by decide +kernel⟩
theorem ok_led (F : Fun K "led" "led" sLed f fd) (cn : ClsN K C) (M : Meths P w K mg base C) (mCk : Md P w K mg base 4 C "clock" (spMClock C)) (fEnd : Cf P w K mg base 4 "end_of_walk" (spEnd K C)) (fUp : Cf P w K mg base 1 "up" spPUp) : FnOk P w K mg base CX0 5 f fd ["network", "name", "number", "rules"] (spLed K C) := by
  refine F.ok scLed (fun vs H Q E h => ?_) (fun cdv A outer s H vs Q E hr h => ?_)
  · obtain ⟨a, x, n, v, ps, rs, xs, rfl, _⟩ := h
    rfl
  · obtain ⟨a, x, n, v, ps, rs, xs, rfl, net, good, jd, valid, k⟩ := h
    refine ⟨_, (pss_cons (ps_if (pt_cmpR op_isN (pe_f fEnd hr (by decide) (by rfl) (pa_cons (pv 0) (pa_cons (pv 1) (pa_cons (pv 3) pa_nil)))) pe_non (nomark _)) (pss_one ps_never) pss_nil)
      (pss_cons (ps_set (i := 4) scLed.nd rfl (.inl rfl) (pe_m0' cn.cls M.rules hr (by decide) (pv 0)))
      (pss_cons (ps_for PassesOwn.never rfl (pi_seq (pv 3)) (pg_name (i := 5) scLed.nd rfl (.inl rfl))
        (pss_cons (ps_set (i := 6) scLed.nd rfl (.inl rfl) (pe_ix ix_tup (pe_ix ix_list (pv 4) (pv 5) (fun _ _ => rfl)) pe_int (fun _ _ => rfl)))
        (pss_one (ps_set (i := 2) scLed.nd rfl (.inl rfl) (pe_f fUp hr (by decide) (by rfl) (pa_cons (pe_m cn.cls mCk hr (by decide) (pv 0) (pa_cons (pv 6) pa_nil)) (pa_cons (pe_op op_add (pv 2) (pe_ix ix_tup (pe_ix ix_list (pv 4) (pv 5) (fun _ _ => rfl)) pe_int (fun _ _ => rfl))) pa_nil)))))))
      (pss_one (ps_ret (pv 2)))))), ?_⟩
    obtain ⟨dx, fs, hN, look⟩ := net_look net
    obtain ⟨y0, hy0⟩ : ∃ y, wend rs x xs = some y := by
      cases e : wend rs x xs with
      | none => exact absurd e valid
      | some y => exact ⟨y, rfl⟩
    refine ⟨_, rfl, _, rfl, _, rfl, a, x, v, ps, rs, some xs, rfl, net, jd, fun H1 s1 => ?_⟩
    rw [show (some xs).bind (wend rs x) = some y0 from hy0]
    obtain ⟨q, rfl, hq⟩ : ∃ q, v = .ref q ∧ Row2 H q xs := by
      cases jd with
      | lst h o => exact ⟨_, rfl, .inl h⟩
      | tup h o => exact ⟨_, rfl, .inr h⟩
    refine ⟨rfl, _, rfl, ?_⟩
    rw [decide_eq_false (show ¬ endV (some y0) = V.non from fun z => by cases z)]
    refine iteF ?_
    refine ⟨_, rfl, a, dx, fs, rfl, s1 _ _ hN, look _ (by decide +kernel) (by decide +kernel) (by decide +kernel), a, ps, rs, rfl, net.same s1, fun Lk bs H2 nL s3 hL row => ?_⟩
    have s4 := s1.trans s3
    have hq4 := hq.same s4
    have one : ∃ (J : It) (G : Hp → Prop), Walk J xs.length G (YAt xs) ∧ (∀ H', Same H2 H' → G H') ∧ ∀ R : It → Hp → Prop, R J H2 → seqR K R q H2 := by
      rcases hq4 with h | h
      · exact ⟨_, _, walk_list, fun H' s => SqL.of (s _ _ h), fun R r => .inl ⟨⟨_, SqL.of h⟩, r⟩⟩
      · exact ⟨_, _, walk_tup, fun H' s => SqT.of (s _ _ h), fun R r => .inr ⟨⟨_, SqT.of h⟩, r⟩⟩
    obtain ⟨J, G, wk, gd, pick⟩ := one
    refine ⟨_, rfl, q, rfl, pick _ ?_⟩
    refine for_it wk (fun i σ H3 => ∃ (y : Str) (m : Int) (v5 v6 : Option V), σ = [some (.ref a), some (.str x), some (.int m), some (.ref q), some (.ref Lk), v5, v6] ∧ wend rs y (xs.drop i) = some y0 ∧ ledN ps rs n xs = ledN ps rs m (xs.drop i) ∧ Same H2 H3) ⟨x, n, _, _, rfl, hy0, rfl, fun _ _ z => z⟩ (fun i σ H3 _ ⟨_, _, _, _, _, _, _, z⟩ => gd _ z) ?_ ?_
    · rintro i z σ H3x H3 hi ⟨y, m, v5, v6, rfl, e, el, s3'⟩ ⟨rfl, hz⟩
      have split : xs.drop i = z :: xs.drop (i + 1) := by
        rw [List.drop_eq_getElem_cons hi]
        rw [List.getElem?_eq_getElem hi] at hz
        rw [Option.some.inj hz]
      rw [split] at e el
      have q4 := s4.trans s3'
      obtain ⟨i0, r, rfl, p0, hr0, er, e2⟩ : ∃ (i0 : Int) (r : Rl), z = .int i0 ∧ 0 ≤ i0 ∧ rs[i0.toNat]? = some r ∧ r.1 = y ∧ wend rs r.2.1 (xs.drop (i + 1)) = some y0 := by
        cases z with
        | int i0 =>
          have e : (if 0 ≤ i0 then match rs[i0.toNat]? with
            | some r => if r.1 = y then wend rs r.2.1 (xs.drop (i + 1)) else none
            | none => none
            else none) = some y0 := e
          by_cases p0 : 0 ≤ i0
          · rw [if_pos p0] at e
            cases hr0 : rs[i0.toNat]? with
            | none => rw [hr0] at e; cases e
            | some r =>
              rw [hr0] at e
              by_cases er : r.1 = y
              · exact ⟨i0, r, rfl, p0, hr0, er, by simpa [er] using e⟩
              · simp [er] at e
          · rw [if_neg p0] at e
            cases e
        | _ => cases e
      have el2 : ledN ps rs n xs = ledN ps rs (upv (ck ps r.2.1).1 (ck ps r.2.1).2 (m + r.2.2)) (xs.drop (i + 1)) := by
        rw [el]
        show (match rs[i0.toNat]? with
          | some r => ledN ps rs (upv (ck ps r.2.1).1 (ck ps r.2.1).2 (m + r.2.2)) (xs.drop (i + 1))
          | none => m) = _
        rw [hr0]
      obtain ⟨hi0, er0⟩ := List.getElem?_eq_some_iff.mp hr0
      have hb0 : i0.toNat < bs.length := by rw [row.1]; exact hi0
      have pr : H3 bs[i0.toNat] = some (.tup [.str r.1, .str r.2.1, .int r.2.2]) := s3' _ _ (row.2 i0.toNat _ _ (List.getElem?_eq_getElem hb0) hr0)
      have at_ : atI (bs.map V.ref) i0 = some (.ref bs[i0.toNat]) := by
        have q := atN (xs := bs.map V.ref) (i := i0.toNat) (x := .ref bs[i0.toNat]) (by rw [List.getElem?_map, List.getElem?_eq_getElem hb0]; rfl)
        rwa [show ((i0.toNat : Nat) : Int) = i0 by omega] at q
      have mem := (good.ends r (List.mem_of_getElem? hr0)).2
      obtain ⟨p, mp, ep⟩ := List.mem_map.mp mem
      obtain ⟨j, hj⟩ := List.getElem?_of_mem mp
      have ckp : ck ps r.2.1 = p.2 := by rw [← ep]; exact ck_at good.nd hj
      have p1 : 0 < p.2.2 := by have := (good.ok p mp).2.1; omega
      rw [ckp] at el2
      refine ⟨_, rfl, _, rfl, Lk, _, _, _, rfl, rfl, SqL.of (s3' _ _ hL), at_, bs[i0.toNat], _, _, _, rfl, rfl, SqT.of pr, atN (i := 1) rfl, ?_⟩
      refine ⟨_, rfl, a, dx, fs, rfl, q4 _ _ hN, look _ (by decide +kernel) (by decide +kernel) (by decide +kernel), _, rfl, a, ps, rs, j, p, congrArg (fun z => [V.ref a, V.str z]) ep.symm, net.same q4, good.nd, hj, fun t H4 s5 ht => ?_⟩
      refine ⟨_, rfl, _, rfl, _, rfl, Lk, _, _, _, rfl, rfl, SqL.of (s5 _ _ (s3' _ _ hL)), at_, bs[i0.toNat], _, _, _, rfl, rfl, SqT.of (s5 _ _ pr), atN (i := 2) rfl, _, _, rfl, rfl, t, _, _, _, rfl, ht, p1, ?_⟩
      rw [up_eq p1]
      exact ⟨_, _, _, _, rfl, e2, el2, s3'.trans s5⟩
    · rintro σ H3 ⟨y, m, v5, v6, rfl, e, el, s3'⟩
      rw [List.drop_length] at el
      have r := k _ (s4.trans s3')
      rw [el] at r
      exact ⟨_, rfl, r⟩
end
end K07
namespace K07
open PySem PySem.Spec L2 Rt
open PyProof.Rows hiding St

abbrev sLLed : Stmt := top 43
abbrev sIsWalk : Stmt := top 46
def spLLed : Sp := fun vs H Q _ => ∃ (n q : Addr) (m : Int) (ps : List Pt) (rs : List Rl) (xs : List V), vs = [.ref n, .int m, .ref q] ∧ LNet H n ps rs ∧ Good ps rs ∧ Row2 H q xs ∧ (∃ x, wend rs x xs ≠ none) ∧ ∀ H', Same H H' → Q (.int (ledN ps rs m xs)) H'
def spIsWalk (K : PySem.W.Frag) : Sp := fun vs H Q _ => ∃ (n : Addr) (x : Str) (v : V) (ps : List Pt) (rs : List Rl) (xo : Option (List V)), vs = [.ref n, .str x, v] ∧ LNet H n ps rs ∧ Jd K H v xo ∧ ∀ H', Same H H' → Q (.bl (xo.bind (wend rs x)).isSome) H'
theorem wend_step {rs : List Rl} {y : Str} {z : V} {zs : List V} {y0 : Str} (e : wend rs y (z :: zs) = some y0) : ∃ (i0 : Int) (r : Rl), z = .int i0 ∧ 0 ≤ i0 ∧ rs[i0.toNat]? = some r ∧ r.1 = y ∧ wend rs r.2.1 zs = some y0 := by
  cases z with
  | int i0 =>
    have e : (if 0 ≤ i0 then match rs[i0.toNat]? with
      | some r => if r.1 = y then wend rs r.2.1 zs else none
      | none => none
      else none) = some y0 := e
    by_cases p0 : 0 ≤ i0
    · rw [if_pos p0] at e
      cases hr0 : rs[i0.toNat]? with
      | none => rw [hr0] at e; cases e
      | some r =>
        rw [hr0] at e
        by_cases er : r.1 = y
        · exact ⟨i0, r, rfl, p0, hr0, er, by simpa [er] using e⟩
        · simp [er] at e
    · rw [if_neg p0] at e
      cases e
  | _ => cases e
section
variable {P : Program} {w : World} {K : PySem.W.Frag} {mg : Str → Option Value} {base : Heap} {f C : Addr} {fd : FuncData}
theorem scLLed : FnScope ["net", "number", "walk", "k", "start", "end", "least"] ["net", "number", "walk"] (defScope sLLed) := ⟨rfl, rfl, rfl, by decide +kernel, rfl, by decide +kernel, by decide +kernel⟩
theorem ok_lled (F : Fun K "_law_led" "_law_led" sLLed f fd) (cU : Cb P w K mg base 1 "_law_up" spLUp) (cCl : Cb P w K mg base 2 "_law_clock_of" spClockOf) : FnG P w K mg base 3 f fd ["net", "number", "walk"] spLLed := by
  refine okG F scLLed (fun vs H Q E h => ?_) (fun cdv A outer s H vs Q E hg hr h => ?_)
  · obtain ⟨n, q, m, ps, rs, xs, rfl, _⟩ := h
    rfl
  · obtain ⟨n, q, m, ps, rs, xs, rfl, net, good, hq, ⟨x, valid⟩, k⟩ := h
    have hu := hu_of hr
    refine ⟨_, (pss_cons (ps_for PassesOwn.never rfl (pi_seq (pv 2)) (pg_name (i := 3) scLLed.nd rfl (.inl rfl))
        (pss_cons (ps_asg (pe_ix ix_list (pe_dget hu (pv 0) pe_str (fun _ _ => rfl)) (pv 3) (fun _ _ => rfl)) (pg_tup (by rfl) (pgs_cons (pg_name (i := 4) scLLed.nd rfl (.inl rfl)) (pgs_cons (pg_name (i := 5) scLLed.nd rfl (.inl rfl)) (pgs_cons (pg_name (i := 6) scLLed.nd rfl (.inl rfl)) pgs_nil)))))
        (pss_one (ps_set (i := 1) scLLed.nd rfl (.inl rfl) (pe_k cU hg hr (by decide) (by rfl) (pa_cons (pe_k cCl hg hr (by decide) (by rfl) (pa_cons (pv 0) (pa_cons (pv 5) pa_nil))) (pa_cons (pe_op op_add (pv 1) (pv 6)) pa_nil)))))))
      (pss_one (ps_ret (pv 1)))), ?_⟩
    obtain ⟨y0, hy0⟩ : ∃ y, wend rs x xs = some y := by
      cases e : wend rs x xs with
      | none => exact absurd e valid
      | some y => exact ⟨y, rfl⟩
    obtain ⟨PA, RA, as, bs, h1, h2, h3, h4, row⟩ := net.ex
    have one : ∃ (J : It) (G : Hp → Prop), Walk J xs.length G (YAt xs) ∧ (∀ H', Same H H' → G H') ∧ ∀ R : It → Hp → Prop, R J H → seqR K R q H := by
      rcases hq with h | h
      · exact ⟨_, _, walk_list, fun H' s => SqL.of (s _ _ h), fun R r => .inl ⟨⟨_, SqL.of h⟩, r⟩⟩
      · exact ⟨_, _, walk_tup, fun H' s => SqT.of (s _ _ h), fun R r => .inr ⟨⟨_, SqT.of h⟩, r⟩⟩
    obtain ⟨J, G, wk, gd, pick⟩ := one
    refine ⟨_, rfl, q, rfl, pick _ ?_⟩
    refine for_it wk (fun i σ H3 => ∃ (y : Str) (m' : Int) (v3 v4 v5 v6 : Option V), σ = [some (.ref n), some (.int m'), some (.ref q), v3, v4, v5, v6] ∧ wend rs y (xs.drop i) = some y0 ∧ ledN ps rs m xs = ledN ps rs m' (xs.drop i) ∧ Same H H3) ⟨x, m, _, _, _, _, rfl, hy0, rfl, fun _ _ z => z⟩ (fun i σ H3 _ ⟨_, _, _, _, _, _, _, _, _, z⟩ => gd _ z) ?_ ?_
    · rintro i z σ H3x H3 hi ⟨y, m', v3, v4, v5, v6, rfl, e, el, s3⟩ ⟨rfl, hz⟩
      have split : xs.drop i = z :: xs.drop (i + 1) := by
        rw [List.drop_eq_getElem_cons hi]
        rw [List.getElem?_eq_getElem hi] at hz
        rw [Option.some.inj hz]
      rw [split] at e el
      obtain ⟨i0, r, rfl, p0, hr0, er, e2⟩ := wend_step e
      have el2 : ledN ps rs m xs = ledN ps rs (upv (ck ps r.2.1).1 (ck ps r.2.1).2 (m' + r.2.2)) (xs.drop (i + 1)) := by
        rw [el]
        show (match rs[i0.toNat]? with
          | some r => ledN ps rs (upv (ck ps r.2.1).1 (ck ps r.2.1).2 (m' + r.2.2)) (xs.drop (i + 1))
          | none => m') = _
        rw [hr0]
      obtain ⟨hi0, er0⟩ := List.getElem?_eq_some_iff.mp hr0
      have hb0 : i0.toNat < bs.length := by rw [row.1]; exact hi0
      have pr : H3 bs[i0.toNat] = some (.tup [.str r.1, .str r.2.1, .int r.2.2]) := s3 _ _ (row.2 i0.toNat _ _ (List.getElem?_eq_getElem hb0) hr0)
      have at_ : atI (bs.map V.ref) i0 = some (.ref bs[i0.toNat]) := by
        have q := atN (xs := bs.map V.ref) (i := i0.toNat) (x := .ref bs[i0.toNat]) (by rw [List.getElem?_map, List.getElem?_eq_getElem hb0]; rfl)
        rwa [show ((i0.toNat : Nat) : Int) = i0 by omega] at q
      have mem := (good.ends r (List.mem_of_getElem? hr0)).2
      obtain ⟨p, mp, ep⟩ := List.mem_map.mp mem
      obtain ⟨j, hj⟩ := List.getElem?_of_mem mp
      have ckp : ck ps r.2.1 = p.2 := by rw [← ep]; exact ck_at good.nd hj
      have p1 : 0 < p.2.2 := by have := (good.ok p mp).2.1; omega
      have p2 : p.2.2 < 1000 := by have := (good.ok p mp).2.2; omega
      rw [ckp] at el2
      refine ⟨_, rfl, n, _, rfl, get_rls (s3 _ _ h1), _, rfl, RA, _, _, _, rfl, rfl, SqL.of (s3 _ _ h3), at_, ?_⟩
      refine ⟨bs[i0.toNat], _, rfl, SqT.of pr, rfl, _, _, rfl, _, _, rfl, _, _, rfl, rfl, ?_⟩
      refine ⟨_, rfl, _, rfl, n, ps, rs, j, p, congrArg (fun z => [V.ref n, V.str z]) ep.symm, net.same s3, good.nd, good.few, hj, fun t H4 s5 ht => ?_⟩
      refine ⟨_, rfl, _, rfl, _, _, rfl, rfl, t, _, _, _, rfl, ht, p1, p2, ?_⟩
      exact ⟨_, _, _, _, _, _, rfl, e2, el2, s3.trans s5⟩
    · rintro σ H3 ⟨y, m', v3, v4, v5, v6, rfl, e, el, s3⟩
      rw [List.drop_length] at el
      have r := k _ s3
      rw [el] at r
      exact ⟨_, rfl, r⟩
theorem scIsWalk : FnScope ["net", "name", "value", "k"] ["net", "name", "value"] (defScope sIsWalk) := ⟨rfl, rfl, rfl, by decide +kernel, rfl, by decide +kernel, by decide +kernel⟩
theorem ok_isWalk (F : Fun K "_law_is_walk" "_law_is_walk" sIsWalk f fd) (T : Lw mg) (cI : Cb P w K mg base 1 "_law_is_integer" spIsInt) : FnG P w K mg base 2 f fd ["net", "name", "value"] (spIsWalk K) := by
  refine okG F scIsWalk (fun vs H Q E h => ?_) (fun cdv A outer s H vs Q E hg hr h => ?_)
  · obtain ⟨n, x, v, ps, rs, xo, rfl, _⟩ := h
    rfl
  · obtain ⟨n, x, v, ps, rs, xo, rfl, net, jd, k⟩ := h
    have hu := hu_of hr
    refine ⟨_, (pss_cons (ps_if (pt_not (pt_val (pe_callB call_isiT (by rfl) T.zisinstance (by decide +kernel) (pa_cons (pv 2) (pa_cons (pe_tup (pa_cons (pe_bltn (v := .ty "list") (by rfl) T.zlist (by decide +kernel) rfl) (pa_cons (pe_bltn (v := .ty "tuple") (by rfl) T.ztuple (by decide +kernel) rfl) pa_nil))) pa_nil))))) (pss_one (ps_ret pe_bl)) pss_nil)
      (pss_cons (ps_for PassesOwn.never rfl (pi_seq (pv 2)) (pg_name (i := 3) scIsWalk.nd rfl (.inl rfl))
        (pss_cons (ps_if (PW.pt (pw_or (pt_not (pt_val (pe_k cI hg hr (by decide) (by rfl) (pa_cons (pv 3) pa_nil)))) (pw_or (pt_not (pt_chain op_le op_lt pe_int (pv 3) (pe_callB call_len_seq (by rfl) T.zlen (by decide +kernel) (pa_cons (pe_dget hu (pv 0) pe_str (fun _ _ => rfl)) pa_nil)))) (pw_or1 (pt_cmpR op_ne (pe_ix ix_tup (pe_ix ix_list (pe_dget hu (pv 0) pe_str (fun _ _ => rfl)) (pv 3) (fun _ _ => rfl)) pe_int (fun _ _ => rfl)) (pv 1) (nomark _)))))) (pss_one (ps_ret pe_bl)) pss_nil)
        (pss_one (ps_set (i := 1) scIsWalk.nd rfl (.inl rfl) (pe_ix ix_tup (pe_ix ix_list (pe_dget hu (pv 0) pe_str (fun _ _ => rfl)) (pv 3) (fun _ _ => rfl)) pe_int (fun _ _ => rfl))))))
      (pss_one (ps_ret pe_bl)))), ?_⟩
    obtain ⟨PA, RA, as, bs, h1, h2, h3, h4, row⟩ := net.ex
    refine ⟨_, rfl, (by show 2 ≤ sizeLine; decide), fun tp nt => ?_⟩
    have s2 := same_new (H := H) (o := .tup [.ty "list", .ty "tuple"]) nt
    have jd2 : (xo = none ∧ ∃ T : String, TyX K (upd H tp (.tup [.ty "list", .ty "tuple"])) v (.type T) ∧ PySem.W.kitAny K (.type T) [.type "list", .type "tuple"] = some false) ∨
        ∃ (q : Addr) (xs : List V), v = .ref q ∧ xo = some xs ∧ Row2 H q xs ∧ ∀ x, x ∈ xs → Od H x := by
      cases jd with
      | no ty kk => exact .inl ⟨rfl, _, ty _ s2, kk⟩
      | lst h o => exact .inr ⟨_, _, rfl, rfl, .inl h, o⟩
      | tup h o => exact .inr ⟨_, _, rfl, rfl, .inr h, o⟩
    rcases jd2 with ⟨rfl, T1, ty, kk⟩ | ⟨q, xs, rfl, rfl, hq, od⟩
    · refine ⟨_, tp, _, .type T1, _, false, rfl, upd_same, .cons (.ty _) (.cons (.ty _) .nil), ty, kk, false, rfl, iteT ?_⟩
      exact k _ s2
    have hq2 := hq.same s2
    obtain ⟨T1, ty, kk⟩ := hq2.type (K := K)
    refine ⟨_, tp, _, .type T1, _, true, rfl, upd_same, .cons (.ty _) (.cons (.ty _) .nil), ty, kk, true, rfl, iteF ?_⟩
    revert s2 hq2
    generalize upd H tp (.tup [.ty "list", .ty "tuple"]) = H1
    intro s2 hq2
    have one : ∃ (J : It) (G : Hp → Prop), Walk J xs.length G (YAt xs) ∧ (∀ H', Same H1 H' → G H') ∧ ∀ R : It → Hp → Prop, R J H1 → seqR K R q H1 := by
      rcases hq2 with h | h
      · exact ⟨_, _, walk_list, fun H' s => SqL.of (s _ _ h), fun R r => .inl ⟨⟨_, SqL.of h⟩, r⟩⟩
      · exact ⟨_, _, walk_tup, fun H' s => SqT.of (s _ _ h), fun R r => .inr ⟨⟨_, SqT.of h⟩, r⟩⟩
    obtain ⟨J, G, wk, good, pick⟩ := one
    refine ⟨_, rfl, q, rfl, pick _ ?_⟩
    refine for_it wk (fun i σ H3 => ∃ (y : Str) (v3 : Option V), σ = [some (.ref n), some (.str y), some (.ref q), v3] ∧ wend rs x xs = wend rs y (xs.drop i) ∧ Same H1 H3) ⟨x, _, rfl, rfl, fun _ _ z => z⟩ (fun i σ H3 _ ⟨_, _, _, _, z⟩ => good _ z) ?_ ?_
    · rintro i z σ H3x H3 hi ⟨y, v3, rfl, e, s3⟩ ⟨rfl, hz⟩
      have split : xs.drop i = z :: xs.drop (i + 1) := by
        rw [List.drop_eq_getElem_cons hi]
        rw [List.getElem?_eq_getElem hi] at hz
        rw [Option.some.inj hz]
      have mz : z ∈ xs := List.mem_of_getElem? hz
      have odz : Od H3 z := Od.same (s2.trans s3) (od z mz)
      rw [split] at e
      have q4 := s2.trans s3
      refine ⟨_, rfl, z, rfl, odz, _, rfl, ?_⟩
      have out : wend rs y (z :: xs.drop (i + 1)) = none → Q (.bl false) H3 := fun no => by
        have r := k _ q4
        rw [show (some xs).bind (wend rs x) = none from e.trans no] at r
        exact r
      cases hn : isI z with
      | false =>
        refine iteT (out ?_)
        cases z with
        | int i0 => cases hn
        | _ => rfl
      | true =>
        obtain ⟨i0, rfl⟩ : ∃ i0 : Int, z = .int i0 := by
          cases z with
          | int i0 => exact ⟨i0, rfl⟩
          | _ => cases hn
        refine iteF ?_
        refine ⟨_, rfl, _, _, rfl, rfl, _, rfl, ?_⟩
        by_cases p0 : 0 ≤ i0
        case neg =>
          rw [decide_eq_false p0]
          refine iteF ⟨_, rfl, iteT (out ?_)⟩
          show (if 0 ≤ i0 then _ else none) = none
          rw [if_neg p0]
        rw [decide_eq_true p0]
        refine iteT ?_
        refine ⟨_, rfl, n, _, rfl, get_rls (q4 _ _ h1), RA, _, rfl, .inl (SqL.of (q4 _ _ h3)), _, _, rfl, rfl, _, rfl, ?_⟩
        rw [List.length_map, row.1]
        by_cases go : i0 < (rs.length : Int)
        case neg =>
          rw [decide_eq_false go]
          refine iteT (out ?_)
          show (if 0 ≤ i0 then _ else none) = none
          rw [if_pos p0, List.getElem?_eq_none (by omega)]
        rw [decide_eq_true go]
        refine iteF ?_
        have hi0 : i0.toNat < rs.length := by omega
        have hb0 : i0.toNat < bs.length := by rw [row.1]; exact hi0
        have pr : H3 bs[i0.toNat] = some (.tup [.str rs[i0.toNat].1, .str rs[i0.toNat].2.1, .int rs[i0.toNat].2.2]) := q4 _ _ (row.2 i0.toNat _ _ (List.getElem?_eq_getElem hb0) (List.getElem?_eq_getElem hi0))
        have at_ : atI (bs.map V.ref) i0 = some (.ref bs[i0.toNat]) := by
          have q := atN (xs := bs.map V.ref) (i := i0.toNat) (x := .ref bs[i0.toNat]) (by rw [List.getElem?_map, List.getElem?_eq_getElem hb0]; rfl)
          rwa [show ((i0.toNat : Nat) : Int) = i0 by omega] at q
        have step : wend rs y (.int i0 :: xs.drop (i + 1)) = if rs[i0.toNat].1 = y then wend rs rs[i0.toNat].2.1 (xs.drop (i + 1)) else none := by
          show (if 0 ≤ i0 then match rs[i0.toNat]? with
            | some r => if r.1 = y then wend rs r.2.1 (xs.drop (i + 1)) else none
            | none => none
            else none) = _
          rw [if_pos p0, List.getElem?_eq_getElem hi0]
        refine ⟨_, rfl, n, _, rfl, get_rls (q4 _ _ h1), _, rfl, RA, _, _, _, rfl, rfl, SqL.of (q4 _ _ h3), at_, bs[i0.toNat], _, _, _, rfl, rfl, SqT.of pr, atN (i := 0) rfl, _, rfl, rfl, _, rfl, ?_⟩
        by_cases same : rs[i0.toNat].1 = y
        · rw [same, decide_eq_true rfl]
          refine iteF ?_
          rw [step, if_pos same] at e
          exact ⟨_, rfl, n, _, rfl, get_rls (q4 _ _ h1), _, rfl, RA, _, _, _, rfl, rfl, SqL.of (q4 _ _ h3), at_, bs[i0.toNat], _, _, _, rfl, rfl, SqT.of pr, atN (i := 1) rfl, _, _, rfl, e, s3⟩
        · rw [decide_eq_false (show ¬ V.str rs[i0.toNat].1 = V.str y from fun z => same (by cases z; rfl))]
          refine iteT (out ?_)
          rw [step, if_neg same]
    · rintro σ H3 ⟨y, v3, rfl, e, s3⟩
      rw [List.drop_length] at e
      have e2 : wend rs x xs = some y := e
      have r := k _ (s2.trans s3)
      rw [show (some xs).bind (wend rs x) = some y from e2] at r
      exact r
end
end K07
namespace Rt
open PySem PySem.Spec L2
open PyProof.Rows hiding St
/-! ### repr of data -/
mutual
theorem dp_plain {K : PySem.W.Frag} {H : Hp} : ∀ (d : PyData) (v : V), Dp K H v d → d.hasDict = false
  | .none, _, _ => by simp only [PyData.hasDict]
  | .bool _, _, _ => by simp only [PyData.hasDict]
  | .int _, _, _ => by simp only [PyData.hasDict]
  | .str _, _, _ => by simp only [PyData.hasDict]
  | .list ds, _, h => by
    cases h with
    | lst _ ha =>
      simp only [PyData.hasDict]
      exact dp_plainAll ds _ ha
  | .tuple ds, _, h => by
    cases h with
    | tup _ ha =>
      simp only [PyData.hasDict]
      exact dp_plainAll ds _ ha
  | .dict _, _, h => by cases h
theorem dp_plainAll {K : PySem.W.Frag} {H : Hp} : ∀ (ds : List PyData) (vs : List V), DpAll K H vs ds → PyData.hasDictAll ds = false
  | [], _, _ => by simp only [PyData.hasDictAll]
  | d :: ds, _, h => by
    cases h with
    | cons h1 h2 => simp only [PyData.hasDictAll, dp_plain d _ h1, dp_plainAll ds _ h2, Bool.or_self]
end
def rRepr (K : PySem.W.Frag) : List V → Hp → VK → Prop := fun xs H Q => ∃ v d, xs = [v] ∧ Dp K H v d ∧ d.showable = true ∧ d.depth ≤ 60 ∧ d.shown.length ≤ sizeLine ∧ Q (.str d.shown) H
section
variable {X : Cx}
theorem call_repr (hg : X.A.guards = some []) (hu : X.A.units + 64 < cLine) : CallR X (.builtin "repr") (rRepr X.K) := by
  intro pins s σ H xs us Q I r h
  obtain ⟨v, d, rfl, hd, hs, hdep, hz, q⟩ := h
  obtain ⟨u, rfl, ru⟩ := vals1 r
  have np := dp_plain d v hd
  obtain ⟨as, rd⟩ := Dp.reads I d v u hd ru
  cases rd with
  | none => exact PySem.P.repr_of_none ⟨.str _, H, I.tok _, ⟨_, rfl⟩, by simpa only [PyData.shown] using q⟩
  | bool b => exact PySem.P.repr_of_bool ⟨.str _, H, I.tok _, ⟨_, rfl⟩, by simpa only [PyData.shown] using q⟩
  | int i t => exact PySem.P.repr_of_int (by simpa [PyData.showable] using hs) ⟨.str _, H, I.tok _, ⟨_, rfl⟩, by simpa only [PyData.shown] using q⟩
  | str x t => exact PySem.P.repr_of_str ⟨.str _, H, I.tok _, ⟨_, rfl⟩, by simpa only [PyData.shown] using q⟩ (by simpa only [PyData.shown] using hz)
  | list h1 h2 h3 h4 =>
    exact repr_of_reads' (.list h1 h2 h3 h4) hs (fun z => by rw [np] at z; cases z) hg (by omega) (fun _ _ e => e) (fun h' u tk kp => ⟨.str _, H, I.kept kp, ⟨u, rfl⟩, q⟩) hz
  | tuple h1 h2 h3 h4 =>
    exact repr_of_reads' (.tuple h1 h2 h3 h4) hs (fun z => by rw [np] at z; cases z) hg (by omega) (fun _ _ e => e) (fun h' u tk kp => ⟨.str _, H, I.kept kp, ⟨u, rfl⟩, q⟩) hz
  | dict => simp [PyData.hasDict] at np
end
end Rt
/-! own rules: exceptions as values, with attributes -/
namespace Rt
open PySem PySem.Spec L2
open PyProof.Rows hiding St
/-- an exception of the class at C stands at a; its attributes are fs -/
def Ex (H : Hp) (a C : Addr) (fs : List (Str × V)) : Prop := (fs = [] ∧ H a = some (exo a C none)) ∨ ∃ d, H a = some (exo a C (some d)) ∧ H d = some (exd d fs)
section
variable {X : Cx} {pins : List (Addr × Obj)} {σ : St} {H : Hp} {s : Shared} {a C : Addr} {fs : List (Str × V)}
/-- its object, and its own dict, if it has one -/
theorem ex_inst (I : Inv X pins σ H s) (e : Ex H a C fs) : ∃ (ox : Obj) (od : Option Obj), PySem.W.InstAt s.heap a ox C od ∧
    ∀ n v, fs.lookup n = some v → ∃ u o, od = some o ∧ PySem.W.lookIn n o = some (some u) ∧ L2.RelV v u := by
  rcases e with ⟨rfl, e⟩ | ⟨d, e, ed⟩
  · obtain ⟨t1, he⟩ := exo_at I.hok e
    exact ⟨_, none, ⟨he, rfl, rfl, trivial⟩, fun n v z => nomatch z⟩
  · obtain ⟨t1, he⟩ := exo_at I.hok e
    obtain ⟨mA, hns, rel⟩ := exd_at I.hok ed
    obtain ⟨od, ho, hl⟩ := lookIn_ns hns
    refine ⟨_, some od, ⟨he, rfl, rfl, ho⟩, fun n v z => ?_⟩
    obtain ⟨u, hu, ru⟩ := RelO.some_of (v := v) (o := mA n) (by rw [← z]; exact rel n)
    exact ⟨u, od, rfl, by rw [hl, hu], ru⟩
theorem ex_kit (C' : ExcC X.K C) : PySem.W.KitX X.K (.ref a) (.ref C) (fun h => ∃ ox od, PySem.W.InstAt h a ox C od) := by
  have hcl : (PySem.W.clsIn X.K C).isSome = true := by
    obtain ⟨cd, hc, _⟩ := PySem.W.any_some C'.hd
    rw [hc]
    rfl
  have Z := fun ox od => PySem.W.kitx_exc (x := a) (ox := ox) (od := od) hcl C'.hg C'.hk C'.hs C'.ha C'.hn C'.ht C'.hm
  exact ⟨fun _ _ x ⟨ox, od, p⟩ => (Z ox od).ty _ _ x p, fun _ _ x ⟨ox, od, p⟩ => (Z ox od).it _ _ x p, fun h tp dd its n sl x t => (Z default none).ne h tp dd its n sl x t, fun x ⟨ox, od, p⟩ k => (Z ox od).ca x p k⟩
end
/-- isinstance(e, c), isinstance(e, (c1, c2)) -/
def rIsX (K : PySem.W.Frag) : List V → Hp → VK → Prop := fun xs H Q => ∃ (a C : Addr) (fs : List (Str × V)), Ex H a C fs ∧ ExcC K C ∧
  ((∃ (c : V) (u : Value) (b : Bool), xs = [.ref a, c] ∧ ClsV c u ∧ PySem.W.kitOne K (.ref C) u = some b ∧ Q (.bl b) H) ∨
   (∃ (tp : Addr) (cs : List V) (us : List Value) (b : Bool), xs = [.ref a, .ref tp] ∧ H tp = some (.tup cs) ∧ Paired ClsV cs us ∧ PySem.W.kitAny K (.ref C) us = some b ∧ Q (.bl b) H))
section
variable {X : Cx}
theorem call_isX : CallR X (.builtin "isinstance") (rIsX X.K) := by
  intro pins s σ H xs us Q I r h
  obtain ⟨a, C, fs, e, CC, h⟩ := h
  obtain ⟨ox, od, J, _⟩ := ex_inst I e
  have no : (Value.ref a) ≠ .builtin "__main__.__loader__#opaque" := fun z => nomatch z
  rcases h with ⟨c, u, b, rfl, k, ek, q⟩ | ⟨tp, cs, ws, b, rfl, hT, k, ek, q⟩
  · obtain ⟨u1, u2, rfl, r1, r2⟩ := vals2 r
    cases r1
    cases k.eq r2
    exact PySem.W.kia_one (ex_kit CC) I.kIn ⟨ox, od, J⟩ ek no fun tk => ⟨.bl b, H, I.tok tk, rfl, q⟩
  · obtain ⟨u1, u2, rfl, r1, r2⟩ := vals2 r
    cases r1
    cases r2
    obtain ⟨_, its, rv, o, h1, h2, n, h3⟩ := (show ObjOk X.prog X.w H s.heap tp (.tup cs) from I.hok tp _ hT)
    cases ClsV.all k rv
    obtain ⟨oc, ode, dt, sl⟩ := o
    cases h2
    cases h3
    exact PySem.W.kia_tup (ex_kit CC) I.kIn ⟨ox, od, J⟩ h1 ek no fun tk => ⟨.bl b, H, I.tok tk, rfl, q⟩
/-- e.n of such an exception -/
def tXg (K : PySem.W.Frag) (n : Str) (te : TE) : TE := fun σ H Q => te σ H fun x H1 => ∃ (a C : Addr) (fs : List (Str × V)) (v : V), x = .ref a ∧ Ex H1 a C fs ∧ ExcC K C ∧ PySem.W.findIn K (.ref C) n = some none ∧ fs.lookup n = some v ∧ Q v H1
theorem pe_xg {e : Expr} {te : TE} {pos : Pos} {n : Str} (he : PE X e te) (hb : attributeBase e n X.env (eval e X.env) = eval e X.env := by rfl) : PE X (.Attribute e n pos) (tXg X.K n te) := by
  constructor
  intro pins s σ H Q I h
  refine attr_of hb (thn (he.run pins s σ H _ I h) ?_)
  rintro u s1 ⟨x, H1, J, rx, a, C, fs, v, rfl, ex, CC, hno, l, q⟩
  cases rx
  obtain ⟨ox, od, inst, look⟩ := ex_inst J ex
  obtain ⟨w, o, rfl, lu, rw'⟩ := look n v l
  exact HandSPX.exc_get J.kIn inst CC.hg CC.hk CC.hs (PySem.W.findObj_own CC.hd hno rfl lu) (handed_of rw') ⟨v, H1, J.tok _, rw', q⟩
end
end Rt
namespace Rt
open PySem PySem.Spec L2
open PyProof.Rows hiding St
section
open Builtin Builtin.ObjectAttr PySem.Calls
variable {prog : Program} {w : World} {A : Around} {R : Result → Shared → Prop} {hp : Heap} {g : Array GenState} {d : Drawn} {t : Nat} {os : OsState}
/-- the first attribute of an exception of one's own, whatever its built-in base is -/
theorem exc_first {K : PySem.W.Frag} {B : String} {bmB : List Value} {name : Str} {tk : Tok} {v : Value} {x C : Addr} {fv : Array Value}
    (SF : StoreFacts B bmB "object.__setattr__" "object") (kin : K.In hp) (hx : hp.get? x = some { cls := .ref C, data := .fields fv }) (over : PySem.W.excOver K C bmB = true) (no : PySem.W.findIn K (.ref C) name = some none) (hd : PySem.W.hasDictIn K C = true)
    (hq : ∀ h' tk' dx, (∀ b o, b ≠ x → hp.get? b = some o → h'.get? b = some o) → hp.objs.size ≤ dx → dx ≠ x → h'.get? x = some { cls := .ref C, dict := some dx, data := .fields fv } →
      h'.Ns1 dx (fun y => if y = name then some v else none) → R (.ok (.ret .none)) ⟨h', g, d, tk', os⟩) :
    codeAny (model prog w) A (.call (.builtin "object.__setattr__") ⟨[.ref x, .str name tk, v], []⟩) R ⟨hp, g, d, t, os⟩ := by
  have inst : PySem.W.InstAt hp x { cls := .ref C, data := .fields fv } C none := ⟨hx, rfl, rfl, trivial⟩
  have taker : PySem.W.takerIn K C name = some none := by
    unfold PySem.W.takerIn
    rw [no]
    rfl
  have far : x ≠ hp.objs.size := Nat.ne_of_lt (Heap.lt_size hx)
  obtain ⟨cd, hcd, hh⟩ := PySem.W.any_some hd
  refine PySem.W.osa_openX (s := ⟨hp, g, d, t, os⟩) SF kin inst over taker fun b => ?_
  have hcls : PySem.W.Looks (model prog w) hp (classData C) cd := PySem.W.looks_clsIn kin hcd
  obtain ⟨nm, bs, mro, ns, qn, hdc, sn, sb, ab, col, del⟩ := cd
  dsimp only at hh
  subst hh
  show wpAny _ _ (storeInOwnDict (.ref x) (.ref C) (.str name tk) name v b) _ _ _
  unfold storeInOwnDict ownDictForStores
  repeat (first | with_reducible refine HandSPX.store_in_new ?_ ?_ | with_reducible refine wpAny_loadPart_at hx ?_ | with_reducible refine hcls.at ?_ | wp_step)
  · exact ⟨_, #[], _, (Heap.get?_update_ne _ _ _ _ far.symm).trans (Heap.get?_push_at rfl rfl), rfl, fun e he => absurd he (by simp), fun _ => rfl⟩
  · intro h' tk' ns1 same
    have there : (hp.push { cls := .type "dict", data := .dict #[] }).get? x = some { cls := .ref C, data := .fields fv } := Heap.get?_push_of_some _ hx
    refine hq h' tk' hp.objs.size ?_ (Nat.le_refl _) far.symm ?_ ns1
    · intro b o nb ho
      exact (same.2 b (Nat.ne_of_lt (Heap.lt_size ho))).trans ((Heap.get?_update_ne _ _ _ _ nb).trans (Heap.get?_push_of_some _ ho))
    · exact (same.2 x far).trans (Heap.get?_update_self _ there rfl)
end
end Rt
namespace Rt
open PySem PySem.Spec L2
open PyProof.Rows hiding St
/-- a class of one's own over a built-in exception: its instances may be made, read, stored into -/
structure ExM (K : PySem.W.Frag) (C : Addr) (bmB : List Value) : Prop where
  over : PySem.W.excOver K C bmB = true
  sa : PySem.W.findIn K (.ref C) "__setattr__" = some (some (.builtin "object.__setattr__"))
  cc : ExcC K C
  kp : PySem.W.keepIn K (.ref C) = true
section
variable {X : Cx} {pins : List (Addr × Obj)} {σ : St} {H : Hp} {s : Shared} {a C : Addr} {f : Str} {y : V} {u : Value} {B : String} {bmB : List Value} {Q : Unit → Shared → Prop} {E : Value → Shared → Prop} {A : Around}
theorem ext_ne {φ : Heap → Prop} {o : HO} {b c : Addr} (h1 : H b = some (.ext φ)) (h2 : H c = some o) (d : ∀ ψ, o ≠ .ext ψ) : c ≠ b := fun z => by
  rw [z, h1] at h2
  exact d φ (Option.some.inj h2).symm
theorem set_first (SF : StoreFacts B bmB "object.__setattr__" "object") (M : ExM X.K C bmB) (no : PySem.W.findIn X.K (.ref C) f = some none) (I : Inv X pins σ H s) (e : H a = some (exo a C none)) (ry : L2.RelV y u)
    (h : ∀ dx s', H dx = none → dx ≠ a → Inv X pins σ (upd (upd H dx (exd dx [(f, y)])) a (exo a C (some dx))) s' → Q () s') : wpAny (model X.prog X.w) A (setAttr (.ref a) f u) Q E s := by
  obtain ⟨t1, there⟩ := exo_at I.hok e
  obtain ⟨hp, g, d, t, os⟩ := s
  refine PySem.W.set_plain (ox := { cls := .ref C, dict := none, data := .fields #[.ref t1, .none, .none, .none, .bool false, .none] }) (od := none) I.kIn ⟨there, rfl, rfl, trivial⟩ M.sa ?_
  refine exc_first SF I.kIn there M.over no M.cc.hd ?_
  intro h' tk' dx kp big apart hx ns1
  have fresh : H dx = none := I.hok.fresh big
  have old : ∀ {b : Addr} {o : Obj}, hp.get? b = some o → b ≠ dx := fun {b o} z => Nat.ne_of_lt (Nat.lt_of_lt_of_le (Heap.lt_size z) big)
  have free : ∀ {b : Addr}, H b = none → b ≠ a := fun {b} z y => by
    rw [y, e] at z
    cases z
  have keepsH : ∀ {b : Addr} {o : HO}, H b = some o → b ≠ a → (upd (upd H dx (exd dx [(f, y)])) a (exo a C (some dx))) b = some o := fun {b o} z nb => by
    rw [upd_ne nb, upd_ne (ne_of_none z fresh)]
    exact z
  have U : Un X.fs [] H (upd (upd H dx (exd dx [(f, y)])) a (exo a C (some dx))) hp h' := by
    constructor
    · exact fun b o z n _ _ => kp b o (free n) z
    · exact fun b o z n _ _ => ⟨o.slots, kp b o (free n) z⟩
    · intro b o z n _
      rw [upd_ne (free n), upd_ne (old z)]
      exact n
    · intro b o z _
      by_cases hb : b = a
      · subst hb
        exact ⟨_, hx⟩
      · exact ⟨o, kp b o hb z⟩
    · exact fun b xs z => keepsH z (ext_ne e z (fun _ => nofun))
    · exact fun b o v z => keepsH z (ext_ne e z (fun _ => nofun))
    · exact fun b ps z => ⟨#[], by rw [keepsH z (ext_ne e z (fun _ => nofun))]; simp⟩
  refine h dx _ fresh apart (I.un (t' := tk') U ?_)
  intro b o z
  by_cases hb : b = a
  · subst hb
    rw [upd_same] at z
    cases z
    exact exo_ok hx
  · rw [upd_ne hb] at z
    by_cases hd : b = dx
    · subst hd
      rw [upd_same] at z
      cases z
      exact exd_ok ns1 (relO_put (fs := []) ry fun _ => True.intro)
    · rw [upd_ne hd] at z
      refine (I.hok b o z).stay (fun c v hc q => kp c v ?_ q) (fun c q => keepsH q (ext_ne e q (fun _ => nofun))) fun c xs q => keepsH q (ext_ne e q (fun _ => nofun))
      rcases hc with rfl | hc
      · exact hb
      · exact ext_ne e hc (fun _ => nofun)
end
/-- self.f = e, within the own __init__ -/
def tXs (K : PySem.W.Frag) (bmB : List Value) (f : Str) (to te : TE) : TS := fun D σ H => te σ H fun y H1 => to σ H1 fun x H2 => ∃ a C : Addr, x = .ref a ∧ ExM K C bmB ∧ PySem.W.findIn K (.ref C) f = some none ∧ H2 a = some (exo a C none) ∧
  ∀ dx, H2 dx = none → dx ≠ a → D.nx σ (upd (upd H2 dx (exd dx [(f, y)])) a (exo a C (some dx)))
section
variable {X : Cx} {o e : Expr} {to te : TE} {f : Str} {p p' pos : Pos} {B : String} {bmB : List Value} {es : List Expr} {ta : TA}
theorem ps_xs (SF : StoreFacts B bmB "object.__setattr__" "object") (ho : PE X o to) (he : PE X e te) (hs : swapsWith e (some (.Attribute o f p')) pos.line X.env = pure false := by rfl) : PS X (.Assign [.Attribute o f p'] e pos) (tXs X.K bmB f to te) := by
  constructor
  intro pins s σ H D I h
  refine plainObj_wpAny_Assign_Attribute (thn (he.run pins s σ H _ I h) ?_) hs
  rintro v s1 ⟨y, H1, J1, r1, q1⟩
  refine thn (ho.run pins s1 σ H1 _ J1 q1) ?_
  rintro u s2 ⟨x, H2, J2, r2, a, C, rfl, M, no, ea, q⟩
  cases r2
  exact set_first SF M no J2 ea r1 fun dx s' n ne J => ⟨σ, _, J, q dx n ne⟩
/-- C(e, ..), C's own __init__ keeping sp: the new exception as a value -/
def tXm (C : Addr) (sp : Sp) (ta : TA) : TE := fun σ H Q => ta σ H fun vs H1 => vs.length ≤ 1000 ∧ ∀ a, H1 a = none → sp (.ref a :: vs) (upd H1 a (exo a C none)) (fun v H2 => v = .non ∧ Q (.ref a) H2) E0
theorem pe_xm {x : Str} {C fI : Addr} {k : Nat} {fd : FuncData} {ps : List Str} {sp : Sp} {newId initId : String} (F : ExcBaseFacts B newId initId bmB) (M : ExM X.K C bmB) (ini : PySem.W.excInitIn X.K C bmB newId = true)
    (iC : PySem.W.findIn X.K (.ref C) "__init__" = some (some (.ref fI))) (tI : PySem.W.typeIn X.K (.ref fI) = some (.type "function")) (G : FnOk X.prog X.w X.K X.mg X.base CX0 k fI fd ps sp) (hr : Room (k + 1) X.A) (hb : Binds X.K fd ps [])
    (hg : Gl X x) (hm : X.mg x = some (.ref C)) (ha : PA X (e :: es) ta) (hdb : (x == ("__debug__" : Str)) = false := by decide) (he : starEach (e :: es) X.env = (false, eval e X.env) :: starEach es X.env := by rfl)
    (hpl : (backTo pos (starEach es X.env)).any (·.1) = false := by rfl) : PE X (.Call (.Name x p) (e :: es) [] pos) (tXm C sp ta) := by
  constructor
  intro pins s σ H Q I h
  refine wpAny_Call_Name_kw (ld_glob I hg hm ?_ hdb)
  refine PySem.W.callWith_K (h₀ := X.base) I.ok.mod.kin M.kp (thn (ha.run pos pins s σ H _ I h) ?_) he hpl
  rintro us s1 ⟨vs, H1, J, rv, few, q⟩
  refine ⟨J.kIn, ?_⟩
  show wpAny _ _ (call (.ref C) us) _ _ _
  obtain ⟨hp, g, dr, tk, os⟩ := s1
  obtain ⟨nm, N, qn, bs, bm, hdct, sn, sub, ab, col, dd, k0, k1, k2, k3, k5, hC, tail⟩ := PySem.W.excInit_of J.kIn ini
  have le : hp.objs.size ≤ hp.objs.size + 1 := Nat.le_succ _
  have hn : H1 (hp.objs.size + 1) = none := J.hok.fresh le
  have want := q (hp.objs.size + 1) hn
  have kept : ∀ b o, hp.get? b = some o → ((hp.push (PySem.W.kdv_tup us)).push (PySem.HandSPX.excO C hp.objs.size)).get? b = some o := fun b o z => Heap.get?_push_of_some _ (Heap.get?_push_of_some _ z)
  have got : ((hp.push (PySem.W.kdv_tup us)).push (PySem.HandSPX.excO C hp.objs.size)).get? (hp.objs.size + 1) = some (PySem.HandSPX.excO C hp.objs.size) := by heap_get
  have J2 : Inv X pins σ (upd H1 (hp.objs.size + 1) (exo (hp.objs.size + 1) C none)) ⟨(hp.push (PySem.W.kdv_tup us)).push (PySem.HandSPX.excO C hp.objs.size), g, dr, tk, os⟩ :=
    J.laid (t' := tk) kept le (exo_ok got)
  have r2 : Vals (V.ref (hp.objs.size + 1) :: vs) (Value.ref (hp.objs.size + 1) :: us) := .cons rfl rv
  have hl : (Value.ref (hp.objs.size + 1) :: us).length = ps.length := by
    rw [← r2.length]
    exact G.len _ _ _ _ want
  have hus : us.length ≤ sizeLine := by
    rw [← Paired.length rv, sizeLine_eq]
    omega
  have bt : BindsTo ⟨(hp.push (PySem.W.kdv_tup us)).push (PySem.HandSPX.excO C hp.objs.size), g, dr, tk, os⟩ fd ⟨Value.ref (hp.objs.size + 1) :: us, []⟩ (ps.zip (Value.ref (hp.objs.size + 1) :: us)) := by
    have z := hb _ (Value.ref (hp.objs.size + 1) :: us) J2.kIn (by simpa using hl)
    simpa using z
  refine wpAny_call (PySem.HandSPX.call_own F tail hC (PySem.W.looks_findIn J.kIn iC) (fun self => PySem.W.bind_fn J.kIn self tI) hus
    (codeAny_mono (G.run _ X.stack _ _ ⟨Value.ref (hp.objs.size + 1) :: us, []⟩ (Value.ref (hp.objs.size + 1) :: us) _ _ E0 (hr.make C us []) (J2.env0.make C us []) bt r2 want) ?_))
  intro r s2 out
  match r, out with
  | .error _, z => exact False.elim z
  | .ok .next, z => exact False.elim z
  | .ok .brk, z => exact False.elim z
  | .ok .cont, z => exact False.elim z
  | .ok (.ret u), z =>
    obtain ⟨v, H2, J3, ru, rfl, q3⟩ := J2.after z
    exact ⟨ru, ⟨.ref (hp.objs.size + 1), H2, J3, rfl, q3⟩⟩
/-- C(), C without an own __init__ -/
def tXn (C : Addr) : TE := fun _ H Q => ∀ a, H a = none → Q (.ref a) (upd H a (exo a C none))
theorem pe_xn {x : Str} {C : Addr} {newId initId : String} (F : ExcBaseFacts B newId initId bmB) (q : PySem.W.excIn X.K C bmB newId = true) (kp : PySem.W.keepIn X.K (.ref C) = true) (hg : Gl X x) (hm : X.mg x = some (.ref C))
    (hdb : (x == ("__debug__" : Str)) = false := by decide) : PE X (.Call (.Name x p) [] [] pos) (tXn C) := by
  constructor
  intro pins s σ H Q I h
  refine wpAny_Call_Name_kw (ld_glob I hg hm ?_ hdb)
  refine PySem.W.callWith_K0 I.kIn kp ?_
  obtain ⟨bm, N, nm, qn, bs, hdct, sn, sub, ab, col, dd, k0, k1, k2, k3, k5, mN, hC, hN, hni, T⟩ := exc_obj I.kIn q
  obtain ⟨hp, g, d, t, os⟩ := s
  refine wpAny_call_exc_subT F T hC hN hni (fun h' b made => ?_) (by show 0 ≤ sizeLine; omega)
  have hn : H b = none := I.hok.gone made.new
  obtain ⟨t1, there, _, _⟩ := made.there
  exact ⟨.ref b, _, I.laidN made.keeps made.new hn (exo_ok there), rfl, h b hn⟩
end
end Rt
/-! own rules: repr of data with dicts in it -/
namespace Rt
open PySem PySem.Spec L2
open PyProof.Rows hiding St
def kd : Key → PyData
  | .inl i => .int i
  | .inr x => .str x
mutual
inductive Dx (K : PySem.W.Frag) (H : Hp) : V → PyData → Prop
  | non : Dx K H .non .none
  | bl (b : Bool) : Dx K H (.bl b) (.bool b)
  | int (i : Int) : Dx K H (.int i) (.int i)
  | str (x : Str) : Dx K H (.str x) (.str x)
  | lst {a : Addr} {xs : List V} {ds : List PyData} : SqL K H a xs → DxAll K H xs ds → Dx K H (.ref a) (.list ds)
  | tup {a : Addr} {xs : List V} {ds : List PyData} : SqT K H a xs → DxAll K H xs ds → Dx K H (.ref a) (.tuple ds)
  | dic {a : Addr} {kvs : List (Key × V)} {ds : List PyData} : H a = some (.dK kvs) → DxAll K H (kvs.map (·.2)) ds → Dx K H (.ref a) (.dict ((kvs.map fun p => kd p.1).zip ds))
inductive DxAll (K : PySem.W.Frag) (H : Hp) : List V → List PyData → Prop
  | nil : DxAll K H [] []
  | cons {v : V} {vs : List V} {d : PyData} {ds : List PyData} : Dx K H v d → DxAll K H vs ds → DxAll K H (v :: vs) (d :: ds)
end
theorem DxAll.length {K : PySem.W.Frag} {H : Hp} : ∀ {vs : List V} {ds : List PyData}, DxAll K H vs ds → vs.length = ds.length
  | _, _, .nil => rfl
  | _, _, .cons _ t => congrArg (· + 1) t.length
/-- a value's data, where it stands, with what its repr rests on -/
structure Told (prog : Program) (w : World) (h : Heap) (u : Value) (d : PyData) : Prop where
  ex : ∃ as bs, Reads h u d as ∧ ReadAtMost h d.depth bs ∧ (d.showable = true → d.shown.length ≤ sizeLine → ReprK prog w bs h d.depth u d.shown)
structure ToldAll (prog : Program) (w : World) (h : Heap) (us : List Value) (ds : List PyData) : Prop where
  ex : ∃ as bs, ReadsAll h us ds as ∧ ReadAtMost h (PyData.depthAll ds) bs ∧
    (PyData.showableAll ds = true → (∀ t ∈ PyData.shownAll ds, t.length ≤ sizeLine) → ReprAllK prog w bs h (PyData.depthAll ds) us (PyData.shownAll ds))
section
variable {prog : Program} {w : World} {h : Heap}
theorem ToldAll.nil : ToldAll prog w h [] [] := ⟨[], [], .nil, (fun _ z => nomatch z), fun _ _ => by simp only [PyData.shownAll]; exact .nil⟩
theorem ToldAll.cons {u : Value} {d : PyData} {us : List Value} {ds : List PyData} (a : Told prog w h u d) (b : ToldAll prog w h us ds) : ToldAll prog w h (u :: us) (d :: ds) := by
  obtain ⟨as, bs, r, m, k⟩ := a.ex
  obtain ⟨as', bs', r', m', k'⟩ := b.ex
  refine ⟨_, bs ++ bs', .cons r r', ?_, fun hs hz => ?_⟩
  · simp only [PyData.depthAll]
    exact (m.mono (Nat.le_max_left _ _)).append (m'.mono (Nat.le_max_right _ _))
  · have hs' : d.showable = true ∧ PyData.showableAll ds = true := by simpa [PyData.showableAll] using hs
    have k1 := k hs'.1 (hz _ (by simp only [PyData.shownAll]; exact List.mem_cons_self ..))
    have k2 := k' hs'.2 fun t ht => hz t (by simp only [PyData.shownAll]; exact List.mem_cons_of_mem _ ht)
    simp only [PyData.depthAll, PyData.shownAll]
    exact .cons ((k1.more fun b z => List.mem_append_left _ z).level_le (Nat.le_max_left _ _)) (k2.more_le (fun b z => List.mem_append_right _ z) (Nat.le_max_right _ _))
theorem zip_fst : ∀ (ks : List PyData) (ds : List PyData), ks.length = ds.length → (ks.zip ds).map (·.1) = ks
  | [], _, _ => rfl
  | _ :: _, [], e => nomatch e
  | k :: ks, d :: ds, e => by
    show k :: ((ks.zip ds).map (·.1)) = k :: ks
    rw [zip_fst ks ds (Nat.succ.inj e)]
theorem zip_snd : ∀ (ks : List PyData) (ds : List PyData), ks.length = ds.length → (ks.zip ds).map (·.2) = ds
  | [], [], _ => rfl
  | [], _ :: _, e => nomatch e
  | _ :: _, [], e => nomatch e
  | k :: ks, d :: ds, e => by
    show d :: ((ks.zip ds).map (·.2)) = d :: ds
    rw [zip_snd ks ds (Nat.succ.inj e)]
theorem Told.list {a : Addr} {o : Obj} {us : List Value} {n : Nat} {ds : List PyData} (h1 : h.get? a = some o) (h2 : o.cls = .type "list") (h3 : o.data = .seq us.toArray n) (t : ToldAll prog w h us ds) : Told prog w h (.ref a) (.list ds) := by
  obtain ⟨as, bs, rs, m, k⟩ := t.ex
  have r : Reads h (.ref a) (.list ds) _ := .list h1 h2 h3 rs
  have out : a ∉ bs := not_mem_of_deeper r (by simp only [PyData.depth]; omega) m
  refine ⟨_, a :: bs, r, ReadAtMost.cons r (by simp only [PyData.depth]; omega) m, fun hs hz => ?_⟩
  have hz' : (listText (PyData.shownAll ds)).length ≤ sizeLine := by simpa only [PyData.shown] using hz
  have kk := k (by simpa [PyData.showable] using hs) fun t ht => Nat.le_trans (listText_mem_le ht) hz'
  simp only [PyData.depth, PyData.shown]
  cases us with
  | nil =>
    cases rs
    simp only [PyData.shownAll, listText_nil]
    exact (ReprK.listEmpty (as := bs) h1 h2 h3).more fun b z => List.mem_cons_of_mem _ z
  | cons x l => exact ReprK.list h1 h2 h3 out (by simpa using kk.length_eq) (fun i y e => kk.item i y (by simpa using e))
theorem Told.tuple {a : Addr} {o : Obj} {us : List Value} {n : Nat} {ds : List PyData} (h1 : h.get? a = some o) (h2 : o.cls = .type "tuple") (h3 : o.data = .seq us.toArray n) (t : ToldAll prog w h us ds) : Told prog w h (.ref a) (.tuple ds) := by
  obtain ⟨as, bs, rs, m, k⟩ := t.ex
  have r : Reads h (.ref a) (.tuple ds) _ := .tuple h1 h2 h3 rs
  have out : a ∉ bs := not_mem_of_deeper r (by simp only [PyData.depth]; omega) m
  refine ⟨_, a :: bs, r, ReadAtMost.cons r (by simp only [PyData.depth]; omega) m, fun hs hz => ?_⟩
  have hz' : (tupleText (PyData.shownAll ds)).length ≤ sizeLine := by simpa only [PyData.shown] using hz
  have kk := k (by simpa [PyData.showable] using hs) fun t ht => Nat.le_trans (tupleText_mem_le ht) hz'
  simp only [PyData.depth, PyData.shown]
  exact ReprK.tuple h1 h2 h3 out kk
theorem Told.dict {a : Addr} {o : Obj} {es : Array DictEntry} {n : Nat} {ks ds : List PyData} (h1 : h.get? a = some o) (h2 : o.cls = .type "dict") (h3 : o.data = .dict es n) (sys : (a == sysModules) = false) (le : ks.length = ds.length)
    (t1 : ToldAll prog w h (es.toList.map (·.key)) ks) (t2 : ToldAll prog w h (es.toList.map (·.val)) ds) : Told prog w h (.ref a) (.dict (ks.zip ds)) := by
  obtain ⟨as, bs, rs, m, k⟩ := t1.ex
  obtain ⟨as', bs', rs', m', k'⟩ := t2.ex
  have ek := zip_fst ks ds le
  have ev := zip_snd ks ds le
  have dk := PyData.depthAll_keys_le (ks.zip ds)
  have dv := PyData.depthAll_vals_le (ks.zip ds)
  rw [ek] at dk
  rw [ev] at dv
  have r : Reads h (.ref a) (.dict (ks.zip ds)) _ := .dict h1 h2 h3 (by rw [ek]; exact rs) (by rw [ev]; exact rs')
  have mm : ReadAtMost h (PyData.depthKv (ks.zip ds)) (bs ++ bs') := (m.mono dk).append (m'.mono dv)
  have out : a ∉ bs ++ bs' := not_mem_of_deeper r (by simp only [PyData.depth]; omega) mm
  refine ⟨_, a :: (bs ++ bs'), r, ReadAtMost.cons r (by simp only [PyData.depth]; omega) mm, fun hs hz => ?_⟩
  have hz' : (dictText (PyData.shownKv (ks.zip ds))).length ≤ sizeLine := by simpa only [PyData.shown] using hz
  obtain ⟨s1, s2⟩ := PyData.showableKv_split (ks.zip ds) (by simpa [PyData.showable] using hs)
  rw [ek] at s1
  rw [ev] at s2
  have k1 := k s1 fun t ht => by
    obtain ⟨p, hp, hl⟩ := PyData.shownKv_key_le (ks.zip ds) t (by rw [ek]; exact ht)
    exact Nat.le_trans hl (Nat.le_trans (dictText_mem_le hp) hz')
  have k2 := k' s2 fun t ht => by
    obtain ⟨p, hp, hl⟩ := PyData.shownKv_val_le (ks.zip ds) t (by rw [ev]; exact ht)
    exact Nat.le_trans hl (Nat.le_trans (dictText_mem_le hp) hz')
  simp only [PyData.depth, PyData.shown, PyData.shownKv_eq, ek, ev]
  exact ReprK.dict h1 h2 h3 sys out (ReprEntriesK.of_two es.toList _ _ (k1.more_le (fun b z => List.mem_append_left _ z) dk) (k2.more_le (fun b z => List.mem_append_right _ z) dv))
end
end Rt
namespace Rt
open PySem PySem.Spec L2
open PyProof.Rows hiding St
section
variable {X : Cx} {pins : List (Addr × Obj)} {σ : St} {H : Hp} {s : Shared}
theorem keys_told : ∀ {es : List DictEntry} {kvs : List (Key × V)} {vs : List (Key × Value)}, KV kvs vs → Pairs (mixKind X.prog X.w) es vs →
    ToldAll X.prog X.w s.heap (es.map (·.key)) (kvs.map fun p => kd p.1) ∧ Vals (kvs.map (·.2)) (es.map (·.val))
  | _, _, _, .nil, .nil => ⟨.nil, .nil⟩
  | e :: es, p :: kvs, q :: vs, .cons r t, .cons k v ps => by
    obtain ⟨a, b⟩ := keys_told t ps
    obtain ⟨ep, rv⟩ := r
    refine ⟨.cons ?_ a, .cons ?_ b⟩
    · have k' : keyIs p.1 e.key = true := by
        rw [ep]
        exact k
      show Told X.prog X.w s.heap e.key (kd p.1)
      rcases keyIs_shape k' with ⟨i, tk, e1, e2⟩ | ⟨x, tk, e1, e2⟩
      · rw [e1, e2]
        refine ⟨[], [], .int i tk, (fun _ z => nomatch z), fun hs hz => ?_⟩
        simp only [kd, PyData.shown]
        exact .of_is (ReprIs.int tk (by simpa [PyData.showable, kd] using hs)) _ _ _
      · rw [e1, e2]
        refine ⟨[], [], .str x tk, (fun _ z => nomatch z), fun hs hz => ?_⟩
        simp only [PyData.shown, kd] at hz ⊢
        exact .of_is (ReprIs.str x tk hz) _ _ _
    · show L2.RelV p.2 e.val
      rw [v]
      exact rv
mutual
theorem dx_told (I : Inv X pins σ H s) : ∀ (v : V) (d : PyData) (u : Value), Dx X.K H v d → L2.RelV v u → Told X.prog X.w s.heap u d
  | _, _, _, .non, r => by
    cases r
    exact ⟨[], [], .none, (fun _ z => nomatch z), fun _ _ => by simp only [PyData.shown]; exact .of_is ReprIs.none _ _ _⟩
  | _, _, _, .bl b, r => by
    cases r
    exact ⟨[], [], .bool b, (fun _ z => nomatch z), fun _ _ => by simp only [PyData.shown]; exact .of_is (ReprIs.bool b) _ _ _⟩
  | _, _, _, .int i, r => by
    obtain ⟨tk, rfl⟩ := r
    exact ⟨[], [], .int i tk, (fun _ z => nomatch z), fun hs _ => by simp only [PyData.shown]; exact .of_is (ReprIs.int tk (by simpa [PyData.showable] using hs)) _ _ _⟩
  | _, _, _, .str x, r => by
    obtain ⟨tk, rfl⟩ := r
    exact ⟨[], [], .str x tk, (fun _ z => nomatch z), fun _ hz => by
      simp only [PyData.shown] at hz ⊢
      exact .of_is (ReprIs.str x tk hz) _ _ _⟩
  | _, _, _, .lst hs ha, r => by
    cases r
    obtain ⟨its, rv, ⟨o, n, ho, hc, _, hd⟩, _⟩ := I.list hs
    exact Told.list ho hc hd (dx_toldAll I _ _ _ ha rv)
  | _, _, _, .tup hs ha, r => by
    cases r
    obtain ⟨its, rv, ⟨o, ho, hc, n, hd⟩, _⟩ := I.tuple hs
    exact Told.tuple ho hc hd (dx_toldAll I _ _ _ ha rv)
  | _, _, _, .dic (a := a) (kvs := kvs) (ds := ds) hs ha, r => by
    cases r
    obtain ⟨_, sys, vs, kv, o, es, ep, ho, hx, hd, _, ps, _⟩ := (show ObjOk X.prog X.w H s.heap a (.dK kvs) from I.hok a _ hs)
    obtain ⟨t1, rv⟩ := keys_told (s := s) kv ps
    exact Told.dict ho hx.1 hd sys (by rw [List.length_map, ← ha.length, List.length_map]) t1 (dx_toldAll I _ _ _ ha rv)
theorem dx_toldAll (I : Inv X pins σ H s) : ∀ (vs : List V) (ds : List PyData) (us : List Value), DxAll X.K H vs ds → Vals vs us → ToldAll X.prog X.w s.heap us ds
  | _, _, _, .nil, r => by
    cases r
    exact .nil
  | _, _, _, .cons h t, r => by
    cases r with
    | cons r1 r2 => exact .cons (dx_told I _ _ _ h r1) (dx_toldAll I _ _ _ t r2)
end
end
def rReprX (K : PySem.W.Frag) : List V → Hp → VK → Prop := fun xs H Q => ∃ v d, xs = [v] ∧ Dx K H v d ∧ d.showable = true ∧ d.depth ≤ 60 ∧ d.shown.length ≤ sizeLine ∧ Q (.str d.shown) H
section
variable {X : Cx}
/-- repr(v), v of data, also of dicts -/
theorem call_reprX (hg : X.A.guards = some []) (hu : X.A.units + 64 < cLine) : CallR X (.builtin "repr") (rReprX X.K) := by
  intro pins s σ H xs us Q I r h
  obtain ⟨v, d, rfl, hd, hs, dep, hz, q⟩ := h
  obtain ⟨u, rfl, ru⟩ := vals1 r
  have end0 : ∀ tk, EP X pins σ Q (.str d.shown s.toks) { s with toks := tk } := fun tk => ⟨.str d.shown, H, I.tok _, ⟨_, rfl⟩, q⟩
  have endH : ∀ h' u tk, (∀ b o, s.heap.get? b = some o → h'.get? b = some o) → EP X pins σ Q (.str d.shown u) { s with heap := h', toks := tk } := fun h' u tk kp => ⟨.str d.shown, H, I.kept kp, ⟨u, rfl⟩, q⟩
  have t := dx_told I _ _ _ hd ru
  cases hd with
  | non =>
    cases ru
    exact PySem.P.repr_of_none (by simpa only [PyData.shown] using end0 (s.toks + 1))
  | bl b =>
    cases ru
    exact PySem.P.repr_of_bool (by simpa only [PyData.shown] using end0 (s.toks + 1))
  | int i =>
    obtain ⟨tk, rfl⟩ := ru
    exact PySem.P.repr_of_int (by simpa [PyData.showable] using hs) (by simpa only [PyData.shown] using end0 (s.toks + 1))
  | str x =>
    obtain ⟨tk, rfl⟩ := ru
    exact PySem.P.repr_of_str (by simpa only [PyData.shown] using end0 (s.toks + 1)) (by simpa only [PyData.shown] using hz)
  | @lst a xs ds hl ha =>
    cases ru
    obtain ⟨its, rv, ⟨o, n, ho, hc, _, hdt⟩, _⟩ := I.list hl
    obtain ⟨as, bs, rs, m, k⟩ := (dx_toldAll I _ _ _ ha rv).ex
    have rd : Reads s.heap (.ref a) (.list ds) _ := .list ho hc hdt rs
    have out : a ∉ bs := not_mem_of_deeper rd (by simp only [PyData.depth]; omega) m
    have hz' : (listText (PyData.shownAll ds)).length ≤ sizeLine := by simpa only [PyData.shown] using hz
    have kk := k (by simpa [PyData.showable] using hs) fun t ht => Nat.le_trans (listText_mem_le ht) hz'
    simp only [PyData.depth] at dep
    simp only [PyData.shown] at endH
    refine call_repr_slot (by omega) ⟨o, ho, hc⟩ F.slot_list_repr.toG ?_
    have hu1 : X.A.in1.units + (PyData.depthAll ds + 1) < cLine := by
      show X.A.units + 1 + (PyData.depthAll ds + 1) < cLine
      omega
    cases its with
    | nil =>
      cases rs
      simp only [PyData.shownAll, listText_nil] at endH
      exact call_list_repr_empty ⟨o, ho, hc⟩ ho hdt ⟨_, _, rfl, endH s.heap _ _ fun _ _ e => e⟩
    | cons x l =>
      exact call_list_reprK ho hc hdt out (by simpa using kk.length_eq) (fun i y e => kk.item i y (by simpa using e)) hg (fun b _ => Clear.nil b) hu1 (fun _ _ e => e) (fun h' u tk kp => ⟨_, _, rfl, endH h' u tk kp⟩) hz'
  | @tup a xs ds hl ha =>
    cases ru
    obtain ⟨its, rv, ⟨o, ho, hc, n, hdt⟩, _⟩ := I.tuple hl
    obtain ⟨as, bs, rs, m, k⟩ := (dx_toldAll I _ _ _ ha rv).ex
    have rd : Reads s.heap (.ref a) (.tuple ds) _ := .tuple ho hc hdt rs
    have out : a ∉ bs := not_mem_of_deeper rd (by simp only [PyData.depth]; omega) m
    have hz' : (tupleText (PyData.shownAll ds)).length ≤ sizeLine := by simpa only [PyData.shown] using hz
    have kk := k (by simpa [PyData.showable] using hs) fun t ht => Nat.le_trans (tupleText_mem_le ht) hz'
    simp only [PyData.depth] at dep
    simp only [PyData.shown] at endH
    refine call_repr_slot (by omega) ⟨o, ho, hc⟩ F.slot_tuple_repr ?_
    have hu1 : X.A.in1.units + (PyData.depthAll ds + 1) < cLine := by
      show X.A.units + 1 + (PyData.depthAll ds + 1) < cLine
      omega
    exact call_tuple_reprK ho hc hdt out kk hg (fun b _ => Clear.nil b) hu1 (fun _ _ e => e) (fun h' u tk kp => ⟨_, _, rfl, endH h' u tk kp⟩) hz'
  | @dic a kvs ds hl ha =>
    cases ru
    obtain ⟨_, sys, vs, kv, o, es, ep, ho, hx, hdt, _, ps, _⟩ := (show ObjOk X.prog X.w H s.heap a (.dK kvs) from I.hok a _ hl)
    obtain ⟨t1, rv⟩ := keys_told (s := s) kv ps
    obtain ⟨as, bs, rs, m, k⟩ := t1.ex
    obtain ⟨as', bs', rs', m', k'⟩ := (dx_toldAll I _ _ _ ha rv).ex
    have le : (kvs.map fun p => kd p.1).length = ds.length := by rw [List.length_map, ← ha.length, List.length_map]
    clear end0 t
    revert rs m k le hs dep hz endH
    generalize (kvs.map fun p => kd p.1) = ks
    intro hs dep hz endH rs m k le
    have ek := zip_fst ks ds le
    have ev := zip_snd ks ds le
    have dk := PyData.depthAll_keys_le (ks.zip ds)
    have dv := PyData.depthAll_vals_le (ks.zip ds)
    rw [ek] at dk
    rw [ev] at dv
    have rd : Reads s.heap (.ref a) (.dict (ks.zip ds)) _ := .dict ho hx.1 hdt (by rw [ek]; exact rs) (by rw [ev]; exact rs')
    have mm : ReadAtMost s.heap (PyData.depthKv (ks.zip ds)) (bs ++ bs') := (m.mono dk).append (m'.mono dv)
    have out : a ∉ bs ++ bs' := not_mem_of_deeper rd (by simp only [PyData.depth]; omega) mm
    have hz' : (dictText (PyData.shownKv (ks.zip ds))).length ≤ sizeLine := by simpa only [PyData.shown] using hz
    obtain ⟨s1, s2⟩ := PyData.showableKv_split (ks.zip ds) (by simpa [PyData.showable] using hs)
    rw [ek] at s1
    rw [ev] at s2
    have k1 := k s1 fun t ht => by
      obtain ⟨p, hp, hl⟩ := PyData.shownKv_key_le (ks.zip ds) t (by rw [ek]; exact ht)
      exact Nat.le_trans hl (Nat.le_trans (dictText_mem_le hp) hz')
    have k2 := k' s2 fun t ht => by
      obtain ⟨p, hp, hl⟩ := PyData.shownKv_val_le (ks.zip ds) t (by rw [ev]; exact ht)
      exact Nat.le_trans hl (Nat.le_trans (dictText_mem_le hp) hz')
    simp only [PyData.depth] at dep
    simp only [PyData.shown, PyData.shownKv_eq, ek, ev] at endH
    rw [PyData.shownKv_eq, ek, ev] at hz'
    refine call_repr_slot (by omega) ⟨o, ho, hx.1⟩ F.slot_dict_repr ?_
    have hu1 : X.A.in1.units + (PyData.depthKv (ks.zip ds) + 1) < cLine := by
      show X.A.units + 1 + (PyData.depthKv (ks.zip ds) + 1) < cLine
      omega
    exact call_dict_reprK ho hx.1 hdt sys out (ReprEntriesK.of_two es.toList _ _ (k1.more_le (fun b z => List.mem_append_left _ z) dk) (k2.more_le (fun b z => List.mem_append_right _ z) dv))
      hg (fun b _ => Clear.nil b) hu1 (fun _ _ e => e) (fun h' u tk kp => ⟨_, _, rfl, endH h' u tk kp⟩) hz'
end
end Rt
namespace K07
open PySem PySem.Spec L2 Rt
open PyProof.Rows hiding St

abbrev sLWalk : Stmt := top 44
def spLWalk : Sp := fun vs H Q _ => ∃ (d c n : Addr) (x : Str) (most : Nat) (ps : List Pt) (rs : List Rl), vs = [.ref d, .ref n, .str x, .int most] ∧ Src H d c ∧ LNet (mask d c H) n ps rs ∧ rs.length ≤ 1000 ∧ most ≤ 100 ∧
  ∀ (t F : Addr) (y : Str) (ks : List Int) (H' : Hp), mask d c H' t = some (.tup [.ref F, .str y]) → mask d c H' F = some (.lst (ks.map V.int)) → wend rs x (ks.map V.int) = some y → ks.length ≤ most → Src H' d c → Keep d c H H' → Q (.ref t) H'
theorem big1000' {n : Nat} (h : n ≤ 5000) : n < sizeLine := by
  rw [sizeLine_eq]
  omega
theorem sub_same {d c : Addr} {H H' : Hp} (s : Same H H') : Same (mask d c H) (mask d c H') := mask_keep fun b o e _ _ => s b o e
theorem Keep.of {d c : Addr} {H H' : Hp} (s : Same H H') : Keep d c H H' := fun b o e _ _ => s b o e
theorem at_last {xs : List V} {x : V} : atI (xs ++ [x]) (-1) = some x := by
  unfold atI ixN
  rw [if_neg (by omega), if_pos (by rw [List.length_append]; simp; omega)]
  show (xs ++ [x])[((-1 : Int) + ((xs ++ [x]).length : Int)).toNat]? = some x
  rw [List.length_append, show ((-1 : Int) + ((xs.length + [x].length : Nat) : Int)).toNat = xs.length by simp; omega, List.getElem?_append_right (Nat.le_refl _), Nat.sub_self]
  rfl
theorem wend_snoc {rs : List Rl} {k : Int} {r : Rl} : ∀ {xs : List V} {x y : Str}, wend rs x xs = some y → 0 ≤ k → rs[k.toNat]? = some r → r.1 = y → wend rs x (xs ++ [.int k]) = some r.2.1
  | [], x, y, e, p0, hr, er => by
    have e : some x = some y := e
    cases e
    show (if 0 ≤ k then match rs[k.toNat]? with
      | some r => if r.1 = x then wend rs r.2.1 [] else none
      | none => none
      else none) = _
    rw [if_pos p0, hr]
    show (if r.1 = x then _ else none) = _
    rw [if_pos er]
    rfl
  | z :: xs, x, y, e, p0, hr, er => by
    obtain ⟨i0, r0, rfl, q0, hr0, er0, e2⟩ := wend_step e
    show (if 0 ≤ i0 then match rs[i0.toNat]? with
      | some r => if r.1 = x then wend rs r.2.1 (xs ++ [.int k]) else none
      | none => none
      else none) = _
    rw [if_pos q0, hr0]
    show (if r0.1 = x then _ else none) = _
    rw [if_pos er0]
    exact wend_snoc e2 p0 hr er
section
variable {P : Program} {w : World} {K : PySem.W.Frag} {mg : Str → Option Value} {base : Heap} {f C : Addr} {fd : FuncData}
theorem scLWalk : FnScope ["source", "net", "name", "most", "found", "lap", "some", "k", "rule"] ["source", "net", "name", "most"] (defScope sLWalk) := ⟨rfl, rfl, rfl, by decide +kernel, rfl, by decide +kernel, by decide +kernel⟩
theorem ok_lwalk (F : Fun K "_law_walk" "_law_walk" sLWalk f fd) (T : Lw mg) (cP : Cb P w K mg base 1 "_law_pick" spPick) (cO : Cb P w K mg base 2 "_law_of" spOf) : FnG P w K mg base 3 f fd ["source", "net", "name", "most"] spLWalk := by
  refine okG F scLWalk (fun vs H Q E h => ?_) (fun cdv A outer s H vs Q E hg hr h => ?_)
  · obtain ⟨d, c, n, x, most, ps, rs, rfl, _⟩ := h
    rfl
  · obtain ⟨d, c, n, x, most, ps, rs, rfl, S, net, fewR, fewM, k⟩ := h
    have hu := hu_of hr
    have hu64 := hr.units
    refine ⟨_, (pss_cons (ps_set (i := 4) scLWalk.nd rfl (.inl rfl) (pe_lst pa_nil))
      (pss_cons (ps_for PassesOwn.never rfl (pi_range1 (by rfl) T.zrange (pa_cons (pe_k cP hg hr (by decide) (by rfl) (pa_cons (pv 0) (pa_cons (pe_op op_add (pv 3) pe_int) pa_nil))) pa_nil)) (pg_name (i := 5) scLWalk.nd rfl (.inl rfl))
        (pss_cons (ps_setLc (i := 6) (own := [("k", 7), ("rule", 8)]) rfl scLWalk.nd rfl rfl (sw_true rfl rfl rfl (by decide +kernel)) (pi_enum (by rfl) T.zenumerate (pa_cons (pe_dget hu (pv 1) pe_str (fun _ _ => rfl)) pa_nil)) (blkOk_by (N := ["source", "net", "name", "most", "found", "lap", "some", "k", "rule"]) (sc := defScope sLWalk) (by decide +kernel)) (fun _ _ _ _ _ => (pg_tk (K := K) (n := 2) rfl (by rfl) (pgs_cons (pg_name (i := 7) scLWalk.nd rfl (.inl rfl)) (pgs_cons (pg_name (i := 8) scLWalk.nd rfl (.inl rfl)) pgs_nil)) (by rfl) (by rfl))) (fun _ _ _ _ _ => (pts_one (pt_cmpR op_eq (pe_ix (ix_tup : IxR _ (rIxT K)) (pv 8) pe_int (fun _ _ => rfl)) (pv 2) (nomark _)))) (fun _ _ _ _ _ => (pv 7)))
        (pss_one (ps_if (pt_cmpR (op_neD hu64) (pv 6) (pe_lst pa_nil) (nomark _)) (pss_cons (ps_expr (pe_bm PySem.F.plainAttrs_list PySem.F.slot_list_append PySem.F.type_list_append mt_append (pv 4) (pa_cons (pe_k cO hg hr (by decide) (by rfl) (pa_cons (pv 0) (pa_cons (pv 6) pa_nil))) pa_nil)))
          (pss_one (ps_set (i := 2) scLWalk.nd rfl (.inr rfl) (pe_ix ix_tup (pe_ix ix_list (pe_dget hu (pv 1) pe_str (fun _ _ => rfl)) (pe_ix ix_list (pv 4) (pe_un un_neg pe_int) (fun _ _ => rfl)) (fun _ _ => rfl)) pe_int (fun _ _ => rfl))))) pss_nil))))
      (pss_one (ps_ret (pe_tup (pa_cons (pv 4) (pa_cons (pv 2) pa_nil))))))), ?_⟩
    refine ⟨(by show 0 ≤ sizeLine; decide), fun F nF => ?_⟩
    have aF := S.away nF
    have S1 := S.new (o := .lst []) nF
    have k1 := (Keep.refl (H := H) (d := d) (c := c)).new (o := .lst []) nF
    have hF := mask_at aF (upd_same (H := H) (a := F) (o := .lst []))
    revert S1 k1 hF
    generalize upd H F (.lst []) = H1
    intro S1 k1 hF
    refine ⟨_, rfl, _, rfl, _, _, rfl, rfl, d, c, _, rfl, S1, by omega, fun z H2 z0 z1 S2 k2 => ?_⟩
    refine ⟨z, rfl, by omega, by omega, ?_⟩
    have zm : z.toNat ≤ most := by omega
    have hF2 := mask_keep k2 _ _ hF
    have k02 := k1.trans k2
    refine for_range (lo := 0) (fun i σ H3 => ∃ (y : Str) (v5 v6 v7 v8 : Option V) (ks : List Int), σ = [some (.ref d), some (.ref n), some (.str y), some (.int most), some (.ref F), v5, v6, v7, v8] ∧ Src H3 d c ∧ Keep d c H H3 ∧ mask d c H3 F = some (.lst (ks.map V.int)) ∧ wend rs x (ks.map V.int) = some y ∧ ks.length ≤ i) ⟨x, _, _, _, _, [], rfl, S2, k02, hF2, rfl, Nat.le_refl _⟩ ?_ ?_
    · rintro i σ H3 hi ⟨y, v5, v6, v7, v8, ks, rfl, S3, k3, hF3, e, lk⟩
      have net3 := net.same (mask_keep k3)
      obtain ⟨PA, RA, as, bs, h1, h2, h3, h4, row⟩ := net3.ex
      refine ⟨_, rfl, n, _, rfl, get_rls (mask_same _ _ h1), RA, _, rfl, SqL.of (mask_same _ _ h3), fun D nD => ?_⟩
      have aD := S3.away nD
      have h3r := mask_same _ _ h3
      refine lc_it walk_enum (fun j H4 => Same H3 H4 ∧ ∃ ms : List Int, H4 D = some (.lst (ms.map V.int)) ∧ ms.length ≤ j ∧ ∀ k, k ∈ ms → 0 ≤ k ∧ ∃ r, rs[k.toNat]? = some r ∧ r.1 = y) ⟨same_new nD, [], upd_same, Nat.le_refl _, fun k h => nomatch h⟩ (fun j H4 _ z => SqL.of (z.1 _ _ h3r)) ?_ ?_
      · rintro j u H4 H5 hj ⟨s4, ms, hD, lm, okm⟩ ⟨t, x1, x2, rfl, nt, rfl, e1, e2⟩
        obtain rfl : V.int (j : Nat) = x1 := Option.some.inj e1
        have hb : j < bs.length := by rw [List.length_map] at hj; exact hj
        have hr : j < rs.length := by rw [← row.1]; exact hb
        obtain rfl : V.ref bs[j] = x2 := by
          have e2 : (bs.map V.ref)[j]? = some x2 := e2
          rw [List.getElem?_map, List.getElem?_eq_getElem hb] at e2
          exact Option.some.inj e2
        have s5 : Same H3 (upd H4 t (.tup [.int (j : Nat), .ref bs[j]])) := s4.trans (same_new nt)
        have hD5 : (upd H4 t (.tup [.int (j : Nat), .ref bs[j]])) D = some (.lst (ms.map V.int)) := by
          rw [upd_ne (ne_of_none hD nt)]
          exact hD
        have pr := s5 _ _ (mask_same _ _ (row.2 j _ _ (List.getElem?_eq_getElem hb) (List.getElem?_eq_getElem hr)))
        refine ⟨t, _, rfl, SqT.of upd_same, rfl, _, _, rfl, _, _, rfl, rfl, rfl, ?_⟩
        refine ⟨_, rfl, bs[j], _, _, _, rfl, rfl, SqT.of pr, atN (i := 0) rfl, _, rfl, rfl, _, rfl, ?_⟩
        by_cases same : rs[j].1 = y
        · rw [same, decide_eq_true rfl]
          refine iteT ⟨_, rfl, _, hD5, big1000' (by rw [List.length_map]; omega), fun b o z => by rw [upd_ne (ne_of_none z nD)]; exact s5 b o z, ms ++ [((j : Nat) : Int)], by rw [upd_same, List.map_append]; rfl, by rw [List.length_append]; simp; omega, fun k hk => ?_⟩
          rcases List.mem_append.mp hk with h | h
          · exact okm k h
          · cases List.mem_singleton.mp h
            exact ⟨by omega, rs[j], by rw [Int.toNat_natCast, List.getElem?_eq_getElem hr], same⟩
        · rw [decide_eq_false (show ¬ V.str rs[j].1 = V.str y from fun z => same (by cases z; rfl))]
          exact iteF ⟨s5, ms, hD5, by omega, okm⟩
      · rintro H4 ⟨s4, ms, hD, lm, okm⟩
        have S4 := S3.same s4
        have g4 := sub_same (d := d) (c := c) s4
        have hF4 := g4 _ _ hF3
        have k4 := k3.trans (Keep.of s4)
        refine ⟨_, rfl, (by show 0 ≤ sizeLine; decide), fun e1 ne1 => ?_⟩
        have s5 := same_new (H := H4) (o := .lst []) ne1
        refine ⟨.list (ms.map PyData.int), .list (([] : List Int).map PyData.int), .lst (SqL.of (s5 _ _ hD)) (dpAll_ints _), .lst (SqL.of upd_same) .nil, shaped_ints _, shaped_ints _, _, rfl, ?_⟩
        rw [eqv_ints]
        by_cases no : ms = []
        · rw [decide_eq_true no]
          refine iteF ?_
          exact ⟨y, _, _, _, _, ks, rfl, S4.new ne1, k4.new ne1, (mask_new ne1) _ _ hF4, e, by omega⟩
        · rw [decide_eq_false no]
          refine iteT ?_
          have S5 := S4.new (o := .lst []) ne1
          have k5 := k4.new (o := .lst []) ne1
          have hF5 := (mask_new (d := d) (c := c) (o := .lst []) ne1) _ _ hF4
          have hD5 := s5 _ _ hD
          revert S5 k5 hF5 hD5
          generalize upd H4 e1 (.lst []) = H5
          intro S5 k5 hF5 hD5
          have pos : 0 < ms.length := List.length_pos_iff.mpr no
          refine ⟨_, rfl, .inl ⟨rfl, _, .inl (.inl (mask_same _ _ hF5))⟩, _, rfl, _, rfl, d, c, D, ms.map V.int, rfl, S5, hD5, aD.2, by rw [List.length_map]; exact pos, by rw [List.length_map]; rw [List.length_map, row.1] at lm; omega, fun j v H6 hv S6 k6 => ?_⟩
          obtain ⟨kk, hk, rfl⟩ := int_at hv
          obtain ⟨p0, r, hr0, er⟩ := okm kk (List.mem_of_getElem? hk)
          have hF6 := mask_keep k6 _ _ hF5
          have K7 : Keep d c H (upd H6 F (.lst (ks.map V.int ++ [.int kk]))) := (k5.trans k6).put nF
          have S7 : Src (upd H6 F (.lst (ks.map V.int ++ [.int kk]))) d c := S6.put aF
          have hF7 : (upd H6 F (.lst (ks.map V.int ++ [.int kk]))) F = some (.lst (ks.map V.int ++ [.int kk])) := upd_same
          have lks : ks.length ≤ 5000 := by omega
          refine ⟨F, _, _, rfl, rfl, mask_same _ _ hF6, big1000' (by rw [List.length_map]; exact lks), ?_⟩
          revert K7 S7 hF7
          generalize upd H6 F (.lst (ks.map V.int ++ [.int kk])) = H7
          intro K7 S7 hF7
          have net7 := net.same (mask_keep K7)
          obtain ⟨PA7, RA7, as7, bs7, g1, g2, g3, g4', row7⟩ := net7.ex
          obtain ⟨hi0, er0⟩ := List.getElem?_eq_some_iff.mp hr0
          have hb0 : kk.toNat < bs7.length := by rw [row7.1]; exact hi0
          have pr := mask_same _ _ (row7.2 kk.toNat _ _ (List.getElem?_eq_getElem hb0) hr0)
          have at_ : atI (bs7.map V.ref) kk = some (.ref bs7[kk.toNat]) := by
            have q := atN (xs := bs7.map V.ref) (i := kk.toNat) (x := .ref bs7[kk.toNat]) (by rw [List.getElem?_map, List.getElem?_eq_getElem hb0]; rfl)
            rwa [show ((kk.toNat : Nat) : Int) = kk by omega] at q
          refine ⟨_, rfl, n, _, rfl, get_rls (mask_same _ _ g1), _, rfl, _, rfl, F, _, _, _, rfl, rfl, SqL.of hF7, at_last, RA7, _, _, _, rfl, rfl, SqL.of (mask_same _ _ g3), at_, bs7[kk.toNat], _, _, _, rfl, rfl, SqT.of pr, atN (i := 1) rfl, ?_⟩
          refine ⟨r.2.1, _, _, _, _, ks ++ [kk], rfl, S7, K7, mask_at aF (by rw [hF7, List.map_append]; rfl), ?_, by rw [List.length_append]; simp; omega⟩
          rw [List.map_append]
          exact wend_snoc e p0 hr0 er
    · rintro σ H3 ⟨y, v5, v6, v7, v8, ks, rfl, S3, k3, hF3, e, lk⟩
      refine ⟨_, rfl, _, rfl, (by show 2 ≤ sizeLine; decide), fun t nt => ?_⟩
      exact k t F y ks _ (mask_at (S3.away nt) upd_same) ((mask_new nt) _ _ hF3) e (Nat.le_trans lk zm) (S3.new nt) (k3.new nt)
end
end K07
namespace K07
open PySem PySem.Spec L2 Rt
open PyProof.Rows hiding St
/-! ### mathematics of walks: never less from more, the same from periods on, below a timetable -/
theorem upv_least {f s x z : Int} (h : 0 < s) (le : x ≤ z) (on : (z - f) % s = 0) : upv f s x ≤ z := Rise.upc_least h le on
theorem upv_mono {f s x y : Int} (h : 0 < s) (le : x ≤ y) : upv f s x ≤ upv f s y := upv_least h (Int.le_trans le (upv_le h)) (upv_on f s y)
theorem upv_add {f s x n : Int} (h : 0 < s) (d : s ∣ n) : upv f s (x + n) = upv f s x + n := by
  have on : ∀ (v m : Int), s ∣ m → (v - f) % s = 0 → (v + m - f) % s = 0 := fun v m dm hv => by
    obtain ⟨q, rfl⟩ := dm
    rw [show v + s * q - f = v - f + s * q by omega, Int.add_mul_emod_self_left]
    exact hv
  have a : upv f s (x + n) ≤ upv f s x + n := upv_least h (by have := upv_le (f := f) (x := x) h; omega) (on _ _ d (upv_on f s x))
  have b : upv f s x ≤ upv f s (x + n) + -n := upv_least h (by have := upv_le (f := f) (x := x + n) h; omega) (on _ _ (Int.dvd_neg.mpr d) (upv_on f s (x + n)))
  omega
theorem ledN_mono {ps : List Pt} {rs : List Rl} (pos : ∀ r, r ∈ rs → 0 < (ck ps r.2.1).2) : ∀ (xs : List V) {v u : Int}, v ≤ u → ledN ps rs v xs ≤ ledN ps rs u xs
  | [], v, u, le => le
  | z :: xs, v, u, le => by
    cases z with
    | int i =>
      show (match rs[i.toNat]? with
        | some r => ledN ps rs (upv (ck ps r.2.1).1 (ck ps r.2.1).2 (v + r.2.2)) xs
        | none => v) ≤ (match rs[i.toNat]? with
        | some r => ledN ps rs (upv (ck ps r.2.1).1 (ck ps r.2.1).2 (u + r.2.2)) xs
        | none => u)
      cases h : rs[i.toNat]? with
      | none => exact le
      | some r => exact ledN_mono pos xs (upv_mono (pos r (List.mem_of_getElem? h)) (by omega))
    | _ => exact le
theorem ledN_add {ps : List Pt} {rs : List Rl} {n : Int} (pos : ∀ r, r ∈ rs → 0 < (ck ps r.2.1).2) (dv : ∀ r, r ∈ rs → (ck ps r.2.1).2 ∣ n) : ∀ (xs : List V) (v : Int), ledN ps rs (v + n) xs = ledN ps rs v xs + n
  | [], v => rfl
  | z :: xs, v => by
    cases z with
    | int i =>
      show (match rs[i.toNat]? with
        | some r => ledN ps rs (upv (ck ps r.2.1).1 (ck ps r.2.1).2 (v + n + r.2.2)) xs
        | none => v + n) = (match rs[i.toNat]? with
        | some r => ledN ps rs (upv (ck ps r.2.1).1 (ck ps r.2.1).2 (v + r.2.2)) xs
        | none => v) + n
      cases h : rs[i.toNat]? with
      | none => rfl
      | some r =>
        have m := List.mem_of_getElem? h
        dsimp only
        rw [show v + n + r.2.2 = v + r.2.2 + n by omega, upv_add (pos r m) (dv r m)]
        exact ledN_add pos dv xs _
    | _ => rfl
theorem ledN_below {ps : List Pt} {rs : List Rl} {z : Str → Int} (pos : ∀ r, r ∈ rs → 0 < (ck ps r.2.1).2) (on : ∀ r, r ∈ rs → (z r.2.1 - (ck ps r.2.1).1) % (ck ps r.2.1).2 = 0) (keeps : ∀ r, r ∈ rs → z r.1 + r.2.2 ≤ z r.2.1) :
    ∀ (xs : List V) {x y : Str} {v : Int}, wend rs x xs = some y → v ≤ z x → ledN ps rs v xs ≤ z y
  | [], x, y, v, e, le => by
    have e : some x = some y := e
    cases e
    exact le
  | k :: xs, x, y, v, e, le => by
    obtain ⟨i, r, rfl, p0, h, er, e2⟩ := wend_step e
    have m := List.mem_of_getElem? h
    show (match rs[i.toNat]? with
      | some r => ledN ps rs (upv (ck ps r.2.1).1 (ck ps r.2.1).2 (v + r.2.2)) xs
      | none => v) ≤ z y
    rw [h]
    refine ledN_below pos on keeps xs e2 (upv_least (pos r m) ?_ (on r m))
    have := keeps r m
    rw [er] at this
    omega
end K07
namespace K07
open PySem PySem.Spec L2 Rt
open PyProof.Rows hiding St

abbrev sWR : Stmt := top 27
abbrev sWO : Stmt := top 28
def spWR (C : Addr) : Sp := fun vs H Q _ => ∃ (a q : Addr) (bs : List Addr) (ps : List Pt) (rs rs2 : List Rl), vs = [.ref a, .ref q] ∧ NetAt H C a ps rs ∧ H q = some (.lst (bs.map V.ref)) ∧ Row rlV H bs rs2 ∧ Good ps (rs ++ rs2) ∧ ∀ x H', Same H H' → NetAt H' C x ps (rs ++ rs2) → Q (.ref x) H'
def spWO (C : Addr) : Sp := fun vs H Q _ => ∃ (a : Addr) (i : Nat) (ps : List Pt) (rs : List Rl), vs = [.ref a, .int i] ∧ NetAt H C a ps rs ∧ i < rs.length ∧ rs.length ≤ 1000 ∧ Good ps (rs.eraseIdx i) ∧ ∀ x H', Same H H' → NetAt H' C x ps (rs.eraseIdx i) → Q (.ref x) H'
theorem row_app {α : Type} {f : α → HO} {H : Hp} {as bs : List Addr} {ps qs : List α} (r : Row f H as ps) (s : Row f H bs qs) : Row f H (as ++ bs) (ps ++ qs) := by
  refine ⟨by rw [List.length_append, List.length_append, r.1, s.1], fun i a p h1 h2 => ?_⟩
  rcases Nat.lt_or_ge i as.length with lt | ge
  · rw [List.getElem?_append_left lt] at h1
    rw [List.getElem?_append_left (by rw [← r.1]; exact lt)] at h2
    exact r.2 i a p h1 h2
  · rw [List.getElem?_append_right ge] at h1
    rw [List.getElem?_append_right (by rw [← r.1]; exact ge), ← r.1] at h2
    exact s.2 _ a p h1 h2
theorem row_del {α : Type} {f : α → HO} {H : Hp} {as : List Addr} {ps : List α} (r : Row f H as ps) (k : Nat) : Row f H (as.eraseIdx k) (ps.eraseIdx k) := by
  refine ⟨by rw [List.length_eraseIdx, List.length_eraseIdx, r.1], fun i a p h1 h2 => ?_⟩
  rw [List.getElem?_eraseIdx] at h1 h2
  by_cases e : i < k
  · rw [if_pos e] at h1 h2
    exact r.2 _ a p h1 h2
  · rw [if_neg e] at h1 h2
    exact r.2 _ a p h1 h2
theorem erase_mapR : ∀ (l : List Addr) (k : Nat), (l.map V.ref).eraseIdx k = (l.eraseIdx k).map V.ref
  | [], _ => rfl
  | a :: l, 0 => rfl
  | a :: l, k + 1 => congrArg (V.ref a :: ·) (erase_mapR l k)
theorem net_ok {H1 : Hp} {C x dx p q : Addr} {as bs : List Addr} {ps : List Pt} {rs : List Rl} {Q : VK} (nx : H1 x = none) (ndx : H1 dx = none) (ne : dx ≠ x) (hp : H1 p = some (.lst (as.map V.ref))) (hq : H1 q = some (.lst (bs.map V.ref))) (ra : Row ptV H1 as ps) (rb : Row rlV H1 bs rs) (good : Good ps rs)
    (k : ∀ H', Same H1 H' → NetAt H' C x ps rs → Q (.ref x) H') : spInit C [.ref x, .ref p, .ref q] (upd (upd H1 dx (.own x)) x (.ins C dx [])) (fun v H2 => v = .non ∧ Q (.ref x) H2) E0 := by
  have sm : Same H1 (upd (upd H1 dx (.own x)) x (.ins C dx [])) := (same_new ndx).trans (same_new (by rw [upd_ne ne.symm]; exact nx))
  exact ⟨x, dx, p, q, as, bs, ps, rs, rfl, upd_same, sm _ _ hp, sm _ _ hq, ra.same sm, rb.same sm, good, fun H' b' net' => ⟨rfl, k H' (fun y u q => b' y u (sm _ _ q) (ne_of_none q nx)) net'⟩⟩
section
variable {P : Program} {w : World} {K : PySem.W.Frag} {mg : Str → Option Value} {base : Heap} {f C : Addr} {fd : FuncData}
theorem scWR : FnScope ["network", "rules"] ["network", "rules"] (defScope sWR) := ⟨rfl, rfl, rfl, by decide +kernel, rfl, by decide +kernel, by decide +kernel⟩
theorem ok_wr (F : Fun K "with_rules" "with_rules" sWR f fd) (T : Wds mg) (cn : ClsN K C) (M : Meths P w K mg base C) (mk : Mkr P w K mg base 4 C "Network" (spInit C)) : FnOk P w K mg base CX0 6 f fd ["network", "rules"] (spWR C) := by
  refine F.ok scWR (fun vs H Q E h => ?_) (fun cdv A outer s H vs Q E hr h => ?_)
  · obtain ⟨a, q, bs, ps, rs, rs2, rfl, _⟩ := h
    rfl
  · obtain ⟨a, q, bs2, ps, rs, rs2, rfl, net, hq, row2, good, k⟩ := h
    refine ⟨_, (pss_cons (ps_if (pt_not (pt_val (pe_callB call_isiT (by rfl) T.zisinstance (by decide +kernel) (pa_cons (pv 1) (pa_cons (pe_tup (pa_cons (pe_bltn (v := .ty "list") (by rfl) T.zlist (by decide +kernel) rfl) (pa_cons (pe_bltn (v := .ty "tuple") (by rfl) T.ztuple (by decide +kernel) rfl) pa_nil))) pa_nil))))) (pss_one ps_never) pss_nil)
      (pss_one (ps_ret (pe_mkr mk hr (by decide) (by rfl) (pa_cons (pe_m0' cn.cls M.points hr (by decide) (pv 0)) (pa_cons (pe_op op_cat (pe_m0' cn.cls M.rules hr (by decide) (pv 0)) (pe_callTy call_list_of (by rfl) T.zlist (by decide +kernel) (pa_cons (pv 1) pa_nil))) pa_nil)))))), ?_⟩
    obtain ⟨dx, fs, hN, look⟩ := net_look net
    have hq2 : Row2 H q (bs2.map V.ref) := .inl hq
    refine ⟨_, rfl, (by show 2 ≤ sizeLine; decide), fun tp nt => ?_⟩
    have s2 := same_new (H := H) (o := .tup [.ty "list", .ty "tuple"]) nt
    obtain ⟨T1, ty, kk⟩ := (hq2.same s2).type (K := K)
    refine ⟨_, tp, _, .type T1, _, true, rfl, upd_same, .cons (.ty _) (.cons (.ty _) .nil), ty, kk, true, rfl, iteF ?_⟩
    revert s2
    generalize upd H tp (.tup [.ty "list", .ty "tuple"]) = H1
    intro s2
    refine ⟨_, rfl, a, dx, fs, rfl, s2 _ _ hN, look _ (by decide +kernel) (by decide +kernel) (by decide +kernel), a, ps, rs, rfl, net.same s2, fun Lp as H2 nLp s3 hLp rowP => ?_⟩
    have s4 := s2.trans s3
    refine ⟨_, rfl, a, dx, fs, rfl, s4 _ _ hN, look _ (by decide +kernel) (by decide +kernel) (by decide +kernel), a, ps, rs, rfl, net.same s4, fun Lr bs H3 nLr s5 hLr rowR => ?_⟩
    have s6 := s4.trans s5
    refine ⟨_, rfl, q, _, rfl, .inl (SqL.of (s6 _ _ hq)), fun L2 nL2 => ?_⟩
    have s7 := same_new (H := H3) (o := .lst (bs2.map V.ref)) nL2
    refine ⟨Lr, L2, _, _, rfl, rfl, s7 _ _ hLr, upd_same, ?_, fun L3 nL3 => ?_⟩
    · rw [List.length_map, List.length_map, rowR.1, row2.1, ← List.length_append]
      exact Nat.le_of_lt (big1000' (Nat.le_trans good.fewR (by decide)))
    have s8 := s7.trans (same_new (o := .lst (bs.map V.ref ++ bs2.map V.ref)) nL3)
    have hL3 : (upd (upd H3 L2 (.lst (bs2.map V.ref))) L3 (.lst (bs.map V.ref ++ bs2.map V.ref))) L3 = some (.lst ((bs ++ bs2).map V.ref)) := by
      rw [upd_same, List.map_append]
    revert s8 hL3
    generalize upd (upd H3 L2 (.lst (bs2.map V.ref))) L3 (.lst (bs.map V.ref ++ bs2.map V.ref)) = H4
    intro s8 hL3
    refine fun x dxx nx ndx ne => ?_
    exact net_ok nx ndx ne (s8 _ _ (s5 _ _ hLp)) hL3 (rowP.same (s5.trans s8)) (row_app (rowR.same s8) (row2.same (s6.trans s8))) good fun H5 s9 net5 => k x H5 ((s6.trans s8).trans s9) net5
theorem scWO : FnScope ["network", "number", "rules"] ["network", "number"] (defScope sWO) := ⟨rfl, rfl, rfl, by decide +kernel, rfl, by decide +kernel, by decide +kernel⟩
theorem ok_wo (F : Fun K "without_rule" "without_rule" sWO f fd) (cn : ClsN K C) (M : Meths P w K mg base C) (mk : Mkr P w K mg base 4 C "Network" (spInit C)) : FnOk P w K mg base CX0 6 f fd ["network", "number"] (spWO C) := by
  refine F.ok scWO (fun vs H Q E h => ?_) (fun cdv A outer s H vs Q E hr h => ?_)
  · obtain ⟨a, i, ps, rs, rfl, _⟩ := h
    rfl
  · obtain ⟨a, i, ps, rs, rfl, net, hi, few, good, k⟩ := h
    refine ⟨_, (pss_cons (ps_set (i := 2) scWO.nd rfl (.inl rfl) (pe_m0' cn.cls M.rules hr (by decide) (pv 0)))
      (pss_cons (ps_delL (pv 2) (pv 1))
      (pss_one (ps_ret (pe_mkr mk hr (by decide) (by rfl) (pa_cons (pe_m0' cn.cls M.points hr (by decide) (pv 0)) (pa_cons (pv 2) pa_nil))))))), ?_⟩
    obtain ⟨dx, fs, hN, look⟩ := net_look net
    refine ⟨_, rfl, a, dx, fs, rfl, hN, look _ (by decide +kernel) (by decide +kernel) (by decide +kernel), a, ps, rs, rfl, net, fun Lr bs H1 nLr s1 hLr rowR => ?_⟩
    have hb : i < bs.length := by rw [rowR.1]; exact hi
    refine ⟨_, rfl, _, rfl, Lr, _, (i : Int), i, rfl, rfl, hLr, by omega, by omega, ?_, ?_⟩
    · rw [List.length_map]
      exact PySem.StrLaws.seqIndex_nonneg (by omega) (by omega)
    have s2 : Same H (upd H1 Lr (.lst ((bs.map V.ref).eraseIdx i))) := fun b o z => by
      rw [upd_ne (ne_of_none z nLr)]
      exact s1 _ _ z
    have row2 : Row rlV (upd H1 Lr (.lst ((bs.map V.ref).eraseIdx i))) bs rs := ⟨rowR.1, fun j b r h1 h2 => by
      have z := rowR.2 j b r h1 h2
      rw [upd_ne (fun e => by rw [e, hLr] at z; cases z)]
      exact z⟩
    have hL2 : (upd H1 Lr (.lst ((bs.map V.ref).eraseIdx i))) Lr = some (.lst ((bs.eraseIdx i).map V.ref)) := by
      rw [upd_same, erase_mapR]
    revert s2 row2 hL2
    generalize upd H1 Lr (.lst ((bs.map V.ref).eraseIdx i)) = H2
    intro s2 row2 hL2
    refine ⟨_, rfl, a, dx, fs, rfl, s2 _ _ hN, look _ (by decide +kernel) (by decide +kernel) (by decide +kernel), a, ps, rs, rfl, net.same s2, fun Lp as H3 nLp s3 hLp rowP => ?_⟩
    refine ⟨_, rfl, fun x dxx nx ndx ne => ?_⟩
    exact net_ok nx ndx ne hLp (s3 _ _ hL2) rowP ((row_del row2 i).same s3) good fun H5 s9 net5 => k x H5 ((s2.trans s3).trans s9) net5
end
end K07
namespace K07
open PySem PySem.Spec L2 Rt
open PyProof.Rows hiding St

abbrev sLNear : Stmt := top 47
def Fl : V → Prop
  | .int _ => True
  | .non => True
  | .bl _ => True
  | .str _ => True
  | _ => False
theorem Fl.od {H : Hp} {x : V} (h : Fl x) : Od H x := by
  cases x <;> first | exact True.intro | exact h.elim
def FlL (xs : List V) : Prop := ∀ x, x ∈ xs → Fl x
theorem FlL.app {xs ys : List V} (a : FlL xs) (b : FlL ys) : FlL (xs ++ ys) := fun x h => (List.mem_append.mp h).elim (a x) (b x)
theorem FlL.cut {xs : List V} {lo hi : Option Int} (a : FlL xs) : FlL (cutV xs lo hi) := fun x h => a x (List.mem_of_mem_drop (List.mem_of_mem_take h))
theorem FlL.ints (ks : List Int) : FlL (ks.map V.int) := fun x h => by
  obtain ⟨k, _, rfl⟩ := List.mem_map.mp h
  exact True.intro
theorem FlL.one {x : V} (h : Fl x) : FlL [x] := fun y m => by
  cases List.mem_singleton.mp m
  exact h
theorem jd_flat {K : PySem.W.Frag} {M : Hp} {v : V} {T : String} (t : ∀ H, TyX K H v (.type T)) (h1 : kitB T "list" = some false) (h2 : kitB T "tuple" = some false) : Jd K M v none := .no (fun H _ => t H) (kitLT0 h1 h2)
theorem sz {n : Nat} (h : n ≤ 5000) : n ≤ sizeLine := Nat.le_of_lt (big1000' h)
def spLNear (K : PySem.W.Frag) : Sp := fun vs H Q _ => ∃ (d c n W : Addr) (ks : List Int) (ps : List Pt) (rs : List Rl), vs = [.ref d, .ref n, .ref W] ∧ Src H d c ∧ LNet (mask d c H) n ps rs ∧ rs.length ≤ 1000 ∧ mask d c H W = some (.lst (ks.map V.int)) ∧ ks.length ≤ 100 ∧
  ∀ (t : Addr) (vals : List V) (H' : Hp), Src H' d c → Keep d c H H' → mask d c H' t = some (.lst vals) → (∀ v, v ∈ vals → ∃ xo, (∀ G, LamX.ExtN (mask d c H') G → Jd K G v xo) ∧ ∀ xs, xo = some xs → xs.length ≤ 210) → vals.length ≤ 20 → Q (.ref t) H'
section
variable {P : Program} {w : World} {K : PySem.W.Frag} {mg : Str → Option Value} {base : Heap} {f C : Addr} {fd : FuncData}
theorem scLNear : FnScope ["source", "net", "walk", "k", "other", "found"] ["source", "net", "walk"] (defScope sLNear) := ⟨rfl, rfl, rfl, by decide +kernel, rfl, by decide +kernel, by decide +kernel⟩
theorem ok_lnear (F : Fun K "_law_near" "_law_near" sLNear f fd) (T : Lw mg) (cP : Cb P w K mg base 1 "_law_pick" spPick) : FnG P w K mg base 2 f fd ["source", "net", "walk"] (spLNear K) := by
  refine okG F scLNear (fun vs H Q E h => ?_) (fun cdv A outer s H vs Q E hg hr h => ?_)
  · obtain ⟨d, c, n, W, ks, ps, rs, rfl, _⟩ := h
    rfl
  · obtain ⟨d, c, n, W, ks, ps, rs, rfl, S, net, fewR, mW, fewK, kend⟩ := h
    have hu := hu_of hr
    refine ⟨_, (pss_cons (ps_par (i := 3) (j := 4) rfl scLNear.nd rfl rfl (by decide) rfl rfl (pa_cons (pe_k cP hg hr (by decide) (by rfl) (pa_cons (pv 0) (pa_cons (pe_op op_add (pe_callB call_len_seq (by rfl) T.zlen (by decide +kernel) (pa_cons (pv 2) pa_nil)) pe_int) pa_nil))) (pa_cons (pe_k cP hg hr (by decide) (by rfl) (pa_cons (pv 0) (pa_cons (pe_op op_add (pe_callB call_len_seq (by rfl) T.zlen (by decide +kernel) (pa_cons (pe_dget hu (pv 1) pe_str (fun _ _ => rfl)) pa_nil)) pe_int) pa_nil))) pa_nil)) (by rfl))
      (pss_cons (ps_set (i := 5) scLNear.nd rfl (.inl rfl) (pe_lst (pa_cons (pe_op op_cat (pe_op op_cat (pe_slice sl_list (pv 2) po_none (po_some (pv 3))) (pe_lst (pa_cons (pv 4) pa_nil))) (pe_slice sl_list (pv 2) (po_some (pv 3)) po_none)) (pa_cons (pe_op op_cat (pe_slice sl_list (pv 2) po_none (po_some (pv 3))) (pe_slice sl_list (pv 2) (po_some (pe_op op_add (pv 3) pe_int)) po_none)) (pa_cons (pe_revL (pv 2)) (pa_cons (pe_op op_cat (pv 2) (pe_lst (pa_cons (pe_un un_neg pe_int) pa_nil))) (pa_cons (pe_op op_cat (pv 2) (pe_lst (pa_cons pe_bl pa_nil))) pa_nil)))))))
      (pss_cons (ps_set (i := 5) scLNear.nd rfl (.inl rfl) (pe_op op_cat (pv 5) (pe_lst (pa_cons (pe_op op_cat (pv 2) (pe_lst (pa_cons pe_str pa_nil))) (pa_cons pe_non (pa_cons pe_str (pa_cons pe_dnewK (pa_cons pe_int (pa_cons (pe_tup (pa_cons (pv 2) pa_nil)) (pa_cons (pe_op op_cat (pe_slice sl_list (pv 2) po_none (po_some (pv 3))) (pe_lst (pa_cons pe_non pa_nil))) (pa_cons (pe_op op_cat (pv 2) (pv 2)) pa_nil)))))))))))
      (pss_one (ps_ret (pe_op op_cat (pv 5) (pe_lst (pa_cons (pe_callTy call_tuple_of (by rfl) T.ztuple (by decide +kernel) (pa_cons (pe_op op_cat (pv 2) (pe_lst (pa_cons (pe_callB call_len_seq (by rfl) T.zlen (by decide +kernel) (pa_cons (pe_dget hu (pv 1) pe_str (fun _ _ => rfl)) pa_nil)) pa_nil))) pa_nil)) pa_nil)))))))), ?_⟩
    obtain ⟨PA, RA, as, bs, g1, g2, g3, g4, row⟩ := net.ex
    refine ⟨_, rfl, _, rfl, W, _, rfl, .inl (.inl (.inl (mask_same _ _ mW))), _, _, rfl, rfl, d, c, _, rfl, S, by rw [List.length_map]; omega, fun k H1 k0 k1 S1 K1 => ?_⟩
    have e1 := mask_keep K1
    refine ⟨_, rfl, _, rfl, n, _, rfl, get_rls (mask_same _ _ (e1 _ _ g1)), RA, _, rfl, .inl (.inl (.inl (mask_same _ _ (e1 _ _ g3)))), _, _, rfl, rfl, d, c, _, rfl, S1, by rw [List.length_map, row.1]; omega, fun other H2 o0 o1 S2 K2 => ?_⟩
    refine ⟨_, _, rfl, ?_⟩
    have K02 := K1.trans K2
    have e2 := mask_keep K02
    have hW := mask_same _ _ (e2 _ _ mW)
    have sx : Same H2 H2 := fun _ _ z => z
    have cl := fun lo hi => Nat.le_trans (cutV_length (ks.map V.int) lo hi) (show (ks.map V.int).length ≤ 100 by rw [List.length_map]; exact fewK)
    have c1 := cl none (some k)
    have c2 := cl (some k) none
    have c3 := cl (some (k + 1)) none
    refine ⟨_, rfl, _, rfl, _, rfl, W, _, rfl, SqL.of hW, fun p1 n1 => ?_⟩
    have s1 := same_new (H := H2) (o := .lst (cutV (ks.map V.int) none (some k))) n1
    have h1 := upd_same (H := H2) (a := p1) (o := .lst (cutV (ks.map V.int) none (some k)))
    have a1 := (S2.same sx).away n1
    revert s1 h1
    generalize upd H2 p1 (.lst (cutV (ks.map V.int) none (some k))) = G1
    intro s1 h1
    have sx := sx.trans s1
    have hW := s1 _ _ hW
    refine ⟨_, rfl, (by show 1 ≤ sizeLine; decide), fun p2 n2 => ?_⟩
    have s2 := same_new (H := G1) (o := .lst ([V.int other])) n2
    have h2 := upd_same (H := G1) (a := p2) (o := .lst ([V.int other]))
    have a2 := (S2.same sx).away n2
    revert s2 h2
    generalize upd G1 p2 (.lst ([V.int other])) = G2
    intro s2 h2
    have sx := sx.trans s2
    have h1 := s2 _ _ h1
    have hW := s2 _ _ hW
    refine ⟨p1, p2, _, _, rfl, rfl, h1, h2, sz (by (try simp only [List.length_append, List.length_map, List.length_cons, List.length_nil]); omega), fun p3 n3 => ?_⟩
    have s3 := same_new (H := G2) (o := .lst (cutV (ks.map V.int) none (some k) ++ [V.int other])) n3
    have h3 := upd_same (H := G2) (a := p3) (o := .lst (cutV (ks.map V.int) none (some k) ++ [V.int other]))
    have a3 := (S2.same sx).away n3
    revert s3 h3
    generalize upd G2 p3 (.lst (cutV (ks.map V.int) none (some k) ++ [V.int other])) = G3
    intro s3 h3
    have sx := sx.trans s3
    have h1 := s3 _ _ h1
    have h2 := s3 _ _ h2
    have hW := s3 _ _ hW
    refine ⟨_, rfl, _, rfl, _, rfl, W, _, rfl, SqL.of hW, fun p4 n4 => ?_⟩
    have s4 := same_new (H := G3) (o := .lst (cutV (ks.map V.int) (some k) none)) n4
    have h4 := upd_same (H := G3) (a := p4) (o := .lst (cutV (ks.map V.int) (some k) none))
    have a4 := (S2.same sx).away n4
    revert s4 h4
    generalize upd G3 p4 (.lst (cutV (ks.map V.int) (some k) none)) = G4
    intro s4 h4
    have sx := sx.trans s4
    have h1 := s4 _ _ h1
    have h2 := s4 _ _ h2
    have h3 := s4 _ _ h3
    have hW := s4 _ _ hW
    refine ⟨p3, p4, _, _, rfl, rfl, h3, h4, sz (by (try simp only [List.length_append, List.length_map, List.length_cons, List.length_nil]); omega), fun p5 n5 => ?_⟩
    have s5 := same_new (H := G4) (o := .lst ((cutV (ks.map V.int) none (some k) ++ [V.int other]) ++ cutV (ks.map V.int) (some k) none)) n5
    have h5 := upd_same (H := G4) (a := p5) (o := .lst ((cutV (ks.map V.int) none (some k) ++ [V.int other]) ++ cutV (ks.map V.int) (some k) none))
    have a5 := (S2.same sx).away n5
    revert s5 h5
    generalize upd G4 p5 (.lst ((cutV (ks.map V.int) none (some k) ++ [V.int other]) ++ cutV (ks.map V.int) (some k) none)) = G5
    intro s5 h5
    have sx := sx.trans s5
    have h1 := s5 _ _ h1
    have h2 := s5 _ _ h2
    have h3 := s5 _ _ h3
    have h4 := s5 _ _ h4
    have hW := s5 _ _ hW
    refine ⟨_, rfl, _, rfl, _, rfl, W, _, rfl, SqL.of hW, fun p6 n6 => ?_⟩
    have s6 := same_new (H := G5) (o := .lst (cutV (ks.map V.int) none (some k))) n6
    have h6 := upd_same (H := G5) (a := p6) (o := .lst (cutV (ks.map V.int) none (some k)))
    have a6 := (S2.same sx).away n6
    revert s6 h6
    generalize upd G5 p6 (.lst (cutV (ks.map V.int) none (some k))) = G6
    intro s6 h6
    have sx := sx.trans s6
    have h1 := s6 _ _ h1
    have h2 := s6 _ _ h2
    have h3 := s6 _ _ h3
    have h4 := s6 _ _ h4
    have h5 := s6 _ _ h5
    have hW := s6 _ _ hW
    refine ⟨_, rfl, _, rfl, _, _, rfl, rfl, _, rfl, W, _, rfl, SqL.of hW, fun p7 n7 => ?_⟩
    have s7 := same_new (H := G6) (o := .lst (cutV (ks.map V.int) (some (k + 1)) none)) n7
    have h7 := upd_same (H := G6) (a := p7) (o := .lst (cutV (ks.map V.int) (some (k + 1)) none))
    have a7 := (S2.same sx).away n7
    revert s7 h7
    generalize upd G6 p7 (.lst (cutV (ks.map V.int) (some (k + 1)) none)) = G7
    intro s7 h7
    have sx := sx.trans s7
    have h1 := s7 _ _ h1
    have h2 := s7 _ _ h2
    have h3 := s7 _ _ h3
    have h4 := s7 _ _ h4
    have h5 := s7 _ _ h5
    have h6 := s7 _ _ h6
    have hW := s7 _ _ hW
    refine ⟨p6, p7, _, _, rfl, rfl, h6, h7, sz (by (try simp only [List.length_append, List.length_map, List.length_cons, List.length_nil]); omega), fun p8 n8 => ?_⟩
    have s8 := same_new (H := G7) (o := .lst (cutV (ks.map V.int) none (some k) ++ cutV (ks.map V.int) (some (k + 1)) none)) n8
    have h8 := upd_same (H := G7) (a := p8) (o := .lst (cutV (ks.map V.int) none (some k) ++ cutV (ks.map V.int) (some (k + 1)) none))
    have a8 := (S2.same sx).away n8
    revert s8 h8
    generalize upd G7 p8 (.lst (cutV (ks.map V.int) none (some k) ++ cutV (ks.map V.int) (some (k + 1)) none)) = G8
    intro s8 h8
    have sx := sx.trans s8
    have h1 := s8 _ _ h1
    have h2 := s8 _ _ h2
    have h3 := s8 _ _ h3
    have h4 := s8 _ _ h4
    have h5 := s8 _ _ h5
    have h6 := s8 _ _ h6
    have h7 := s8 _ _ h7
    have hW := s8 _ _ hW
    refine ⟨_, rfl, W, _, rfl, SqL.of hW, fun p9 n9 => ?_⟩
    have s9 := same_new (H := G8) (o := .lst ((ks.map V.int).reverse)) n9
    have h9 := upd_same (H := G8) (a := p9) (o := .lst ((ks.map V.int).reverse))
    have a9 := (S2.same sx).away n9
    revert s9 h9
    generalize upd G8 p9 (.lst ((ks.map V.int).reverse)) = G9
    intro s9 h9
    have sx := sx.trans s9
    have h1 := s9 _ _ h1
    have h2 := s9 _ _ h2
    have h3 := s9 _ _ h3
    have h4 := s9 _ _ h4
    have h5 := s9 _ _ h5
    have h6 := s9 _ _ h6
    have h7 := s9 _ _ h7
    have h8 := s9 _ _ h8
    have hW := s9 _ _ hW
    refine ⟨_, rfl, _, rfl, (by show 1 ≤ sizeLine; decide), fun p10 n10 => ?_⟩
    have s10 := same_new (H := G9) (o := .lst ([(fun i => V.int (-i)) 1])) n10
    have h10 := upd_same (H := G9) (a := p10) (o := .lst ([(fun i => V.int (-i)) 1]))
    have a10 := (S2.same sx).away n10
    revert s10 h10
    generalize upd G9 p10 (.lst ([(fun i => V.int (-i)) 1])) = G10
    intro s10 h10
    have sx := sx.trans s10
    have h1 := s10 _ _ h1
    have h2 := s10 _ _ h2
    have h3 := s10 _ _ h3
    have h4 := s10 _ _ h4
    have h5 := s10 _ _ h5
    have h6 := s10 _ _ h6
    have h7 := s10 _ _ h7
    have h8 := s10 _ _ h8
    have h9 := s10 _ _ h9
    have hW := s10 _ _ hW
    refine ⟨W, p10, _, _, rfl, rfl, hW, h10, sz (by (try simp only [List.length_append, List.length_map, List.length_cons, List.length_nil]); omega), fun p11 n11 => ?_⟩
    have s11 := same_new (H := G10) (o := .lst ((ks.map V.int) ++ [(fun i => V.int (-i)) 1])) n11
    have h11 := upd_same (H := G10) (a := p11) (o := .lst ((ks.map V.int) ++ [(fun i => V.int (-i)) 1]))
    have a11 := (S2.same sx).away n11
    revert s11 h11
    generalize upd G10 p11 (.lst ((ks.map V.int) ++ [(fun i => V.int (-i)) 1])) = G11
    intro s11 h11
    have sx := sx.trans s11
    have h1 := s11 _ _ h1
    have h2 := s11 _ _ h2
    have h3 := s11 _ _ h3
    have h4 := s11 _ _ h4
    have h5 := s11 _ _ h5
    have h6 := s11 _ _ h6
    have h7 := s11 _ _ h7
    have h8 := s11 _ _ h8
    have h9 := s11 _ _ h9
    have h10 := s11 _ _ h10
    have hW := s11 _ _ hW
    refine ⟨_, rfl, (by show 1 ≤ sizeLine; decide), fun p12 n12 => ?_⟩
    have s12 := same_new (H := G11) (o := .lst ([V.bl true])) n12
    have h12 := upd_same (H := G11) (a := p12) (o := .lst ([V.bl true]))
    have a12 := (S2.same sx).away n12
    revert s12 h12
    generalize upd G11 p12 (.lst ([V.bl true])) = G12
    intro s12 h12
    have sx := sx.trans s12
    have h1 := s12 _ _ h1
    have h2 := s12 _ _ h2
    have h3 := s12 _ _ h3
    have h4 := s12 _ _ h4
    have h5 := s12 _ _ h5
    have h6 := s12 _ _ h6
    have h7 := s12 _ _ h7
    have h8 := s12 _ _ h8
    have h9 := s12 _ _ h9
    have h10 := s12 _ _ h10
    have h11 := s12 _ _ h11
    have hW := s12 _ _ hW
    refine ⟨W, p12, _, _, rfl, rfl, hW, h12, sz (by (try simp only [List.length_append, List.length_map, List.length_cons, List.length_nil]); omega), fun p13 n13 => ?_⟩
    have s13 := same_new (H := G12) (o := .lst ((ks.map V.int) ++ [V.bl true])) n13
    have h13 := upd_same (H := G12) (a := p13) (o := .lst ((ks.map V.int) ++ [V.bl true]))
    have a13 := (S2.same sx).away n13
    revert s13 h13
    generalize upd G12 p13 (.lst ((ks.map V.int) ++ [V.bl true])) = G13
    intro s13 h13
    have sx := sx.trans s13
    have h1 := s13 _ _ h1
    have h2 := s13 _ _ h2
    have h3 := s13 _ _ h3
    have h4 := s13 _ _ h4
    have h5 := s13 _ _ h5
    have h6 := s13 _ _ h6
    have h7 := s13 _ _ h7
    have h8 := s13 _ _ h8
    have h9 := s13 _ _ h9
    have h10 := s13 _ _ h10
    have h11 := s13 _ _ h11
    have h12 := s13 _ _ h12
    have hW := s13 _ _ hW
    refine ⟨(by show 5 ≤ sizeLine; decide), fun p14 n14 => ?_⟩
    have s14 := same_new (H := G13) (o := .lst ([V.ref p5, V.ref p8, V.ref p9, V.ref p11, V.ref p13])) n14
    have h14 := upd_same (H := G13) (a := p14) (o := .lst ([V.ref p5, V.ref p8, V.ref p9, V.ref p11, V.ref p13]))
    have a14 := (S2.same sx).away n14
    revert s14 h14
    generalize upd G13 p14 (.lst ([V.ref p5, V.ref p8, V.ref p9, V.ref p11, V.ref p13])) = G14
    intro s14 h14
    have sx := sx.trans s14
    have h1 := s14 _ _ h1
    have h2 := s14 _ _ h2
    have h3 := s14 _ _ h3
    have h4 := s14 _ _ h4
    have h5 := s14 _ _ h5
    have h6 := s14 _ _ h6
    have h7 := s14 _ _ h7
    have h8 := s14 _ _ h8
    have h9 := s14 _ _ h9
    have h10 := s14 _ _ h10
    have h11 := s14 _ _ h11
    have h12 := s14 _ _ h12
    have h13 := s14 _ _ h13
    have hW := s14 _ _ hW
    refine ⟨_, rfl, _, rfl, (by show 1 ≤ sizeLine; decide), fun p15 n15 => ?_⟩
    have s15 := same_new (H := G14) (o := .lst ([V.str ("0" : Str)])) n15
    have h15 := upd_same (H := G14) (a := p15) (o := .lst ([V.str ("0" : Str)]))
    have a15 := (S2.same sx).away n15
    revert s15 h15
    generalize upd G14 p15 (.lst ([V.str ("0" : Str)])) = G15
    intro s15 h15
    have sx := sx.trans s15
    have h1 := s15 _ _ h1
    have h2 := s15 _ _ h2
    have h3 := s15 _ _ h3
    have h4 := s15 _ _ h4
    have h5 := s15 _ _ h5
    have h6 := s15 _ _ h6
    have h7 := s15 _ _ h7
    have h8 := s15 _ _ h8
    have h9 := s15 _ _ h9
    have h10 := s15 _ _ h10
    have h11 := s15 _ _ h11
    have h12 := s15 _ _ h12
    have h13 := s15 _ _ h13
    have h14 := s15 _ _ h14
    have hW := s15 _ _ hW
    refine ⟨W, p15, _, _, rfl, rfl, hW, h15, sz (by (try simp only [List.length_append, List.length_map, List.length_cons, List.length_nil]); omega), fun p16 n16 => ?_⟩
    have s16 := same_new (H := G15) (o := .lst ((ks.map V.int) ++ [V.str ("0" : Str)])) n16
    have h16 := upd_same (H := G15) (a := p16) (o := .lst ((ks.map V.int) ++ [V.str ("0" : Str)]))
    have a16 := (S2.same sx).away n16
    revert s16 h16
    generalize upd G15 p16 (.lst ((ks.map V.int) ++ [V.str ("0" : Str)])) = G16
    intro s16 h16
    have sx := sx.trans s16
    have h1 := s16 _ _ h1
    have h2 := s16 _ _ h2
    have h3 := s16 _ _ h3
    have h4 := s16 _ _ h4
    have h5 := s16 _ _ h5
    have h6 := s16 _ _ h6
    have h7 := s16 _ _ h7
    have h8 := s16 _ _ h8
    have h9 := s16 _ _ h9
    have h10 := s16 _ _ h10
    have h11 := s16 _ _ h11
    have h12 := s16 _ _ h12
    have h13 := s16 _ _ h13
    have h14 := s16 _ _ h14
    have h15 := s16 _ _ h15
    have hW := s16 _ _ hW
    refine (fun p17 n17 => ?_)
    have s17 := same_new (H := G16) (o := .dK ([])) n17
    have h17 := upd_same (H := G16) (a := p17) (o := .dK ([]))
    have a17 := (S2.same sx).away n17
    revert s17 h17
    generalize upd G16 p17 (.dK ([])) = G17
    intro s17 h17
    have sx := sx.trans s17
    have h1 := s17 _ _ h1
    have h2 := s17 _ _ h2
    have h3 := s17 _ _ h3
    have h4 := s17 _ _ h4
    have h5 := s17 _ _ h5
    have h6 := s17 _ _ h6
    have h7 := s17 _ _ h7
    have h8 := s17 _ _ h8
    have h9 := s17 _ _ h9
    have h10 := s17 _ _ h10
    have h11 := s17 _ _ h11
    have h12 := s17 _ _ h12
    have h13 := s17 _ _ h13
    have h14 := s17 _ _ h14
    have h15 := s17 _ _ h15
    have h16 := s17 _ _ h16
    have hW := s17 _ _ hW
    refine ⟨_, rfl, (by show 1 ≤ sizeLine; decide), fun p18 n18 => ?_⟩
    have s18 := same_new (H := G17) (o := .tup ([V.ref W])) n18
    have h18 := upd_same (H := G17) (a := p18) (o := .tup ([V.ref W]))
    have a18 := (S2.same sx).away n18
    revert s18 h18
    generalize upd G17 p18 (.tup ([V.ref W])) = G18
    intro s18 h18
    have sx := sx.trans s18
    have h1 := s18 _ _ h1
    have h2 := s18 _ _ h2
    have h3 := s18 _ _ h3
    have h4 := s18 _ _ h4
    have h5 := s18 _ _ h5
    have h6 := s18 _ _ h6
    have h7 := s18 _ _ h7
    have h8 := s18 _ _ h8
    have h9 := s18 _ _ h9
    have h10 := s18 _ _ h10
    have h11 := s18 _ _ h11
    have h12 := s18 _ _ h12
    have h13 := s18 _ _ h13
    have h14 := s18 _ _ h14
    have h15 := s18 _ _ h15
    have h16 := s18 _ _ h16
    have h17 := s18 _ _ h17
    have hW := s18 _ _ hW
    refine ⟨_, rfl, _, rfl, _, rfl, W, _, rfl, SqL.of hW, fun p19 n19 => ?_⟩
    have s19 := same_new (H := G18) (o := .lst (cutV (ks.map V.int) none (some k))) n19
    have h19 := upd_same (H := G18) (a := p19) (o := .lst (cutV (ks.map V.int) none (some k)))
    have a19 := (S2.same sx).away n19
    revert s19 h19
    generalize upd G18 p19 (.lst (cutV (ks.map V.int) none (some k))) = G19
    intro s19 h19
    have sx := sx.trans s19
    have h1 := s19 _ _ h1
    have h2 := s19 _ _ h2
    have h3 := s19 _ _ h3
    have h4 := s19 _ _ h4
    have h5 := s19 _ _ h5
    have h6 := s19 _ _ h6
    have h7 := s19 _ _ h7
    have h8 := s19 _ _ h8
    have h9 := s19 _ _ h9
    have h10 := s19 _ _ h10
    have h11 := s19 _ _ h11
    have h12 := s19 _ _ h12
    have h13 := s19 _ _ h13
    have h14 := s19 _ _ h14
    have h15 := s19 _ _ h15
    have h16 := s19 _ _ h16
    have h17 := s19 _ _ h17
    have h18 := s19 _ _ h18
    have hW := s19 _ _ hW
    refine ⟨(by show 1 ≤ sizeLine; decide), fun p20 n20 => ?_⟩
    have s20 := same_new (H := G19) (o := .lst ([V.non])) n20
    have h20 := upd_same (H := G19) (a := p20) (o := .lst ([V.non]))
    have a20 := (S2.same sx).away n20
    revert s20 h20
    generalize upd G19 p20 (.lst ([V.non])) = G20
    intro s20 h20
    have sx := sx.trans s20
    have h1 := s20 _ _ h1
    have h2 := s20 _ _ h2
    have h3 := s20 _ _ h3
    have h4 := s20 _ _ h4
    have h5 := s20 _ _ h5
    have h6 := s20 _ _ h6
    have h7 := s20 _ _ h7
    have h8 := s20 _ _ h8
    have h9 := s20 _ _ h9
    have h10 := s20 _ _ h10
    have h11 := s20 _ _ h11
    have h12 := s20 _ _ h12
    have h13 := s20 _ _ h13
    have h14 := s20 _ _ h14
    have h15 := s20 _ _ h15
    have h16 := s20 _ _ h16
    have h17 := s20 _ _ h17
    have h18 := s20 _ _ h18
    have h19 := s20 _ _ h19
    have hW := s20 _ _ hW
    refine ⟨p19, p20, _, _, rfl, rfl, h19, h20, sz (by (try simp only [List.length_append, List.length_map, List.length_cons, List.length_nil]); omega), fun p21 n21 => ?_⟩
    have s21 := same_new (H := G20) (o := .lst (cutV (ks.map V.int) none (some k) ++ [V.non])) n21
    have h21 := upd_same (H := G20) (a := p21) (o := .lst (cutV (ks.map V.int) none (some k) ++ [V.non]))
    have a21 := (S2.same sx).away n21
    revert s21 h21
    generalize upd G20 p21 (.lst (cutV (ks.map V.int) none (some k) ++ [V.non])) = G21
    intro s21 h21
    have sx := sx.trans s21
    have h1 := s21 _ _ h1
    have h2 := s21 _ _ h2
    have h3 := s21 _ _ h3
    have h4 := s21 _ _ h4
    have h5 := s21 _ _ h5
    have h6 := s21 _ _ h6
    have h7 := s21 _ _ h7
    have h8 := s21 _ _ h8
    have h9 := s21 _ _ h9
    have h10 := s21 _ _ h10
    have h11 := s21 _ _ h11
    have h12 := s21 _ _ h12
    have h13 := s21 _ _ h13
    have h14 := s21 _ _ h14
    have h15 := s21 _ _ h15
    have h16 := s21 _ _ h16
    have h17 := s21 _ _ h17
    have h18 := s21 _ _ h18
    have h19 := s21 _ _ h19
    have h20 := s21 _ _ h20
    have hW := s21 _ _ hW
    refine ⟨_, rfl, _, rfl, W, W, _, _, rfl, rfl, hW, hW, sz (by (try simp only [List.length_append, List.length_map, List.length_cons, List.length_nil]); omega), fun p22 n22 => ?_⟩
    have s22 := same_new (H := G21) (o := .lst ((ks.map V.int) ++ (ks.map V.int))) n22
    have h22 := upd_same (H := G21) (a := p22) (o := .lst ((ks.map V.int) ++ (ks.map V.int)))
    have a22 := (S2.same sx).away n22
    revert s22 h22
    generalize upd G21 p22 (.lst ((ks.map V.int) ++ (ks.map V.int))) = G22
    intro s22 h22
    have sx := sx.trans s22
    have h1 := s22 _ _ h1
    have h2 := s22 _ _ h2
    have h3 := s22 _ _ h3
    have h4 := s22 _ _ h4
    have h5 := s22 _ _ h5
    have h6 := s22 _ _ h6
    have h7 := s22 _ _ h7
    have h8 := s22 _ _ h8
    have h9 := s22 _ _ h9
    have h10 := s22 _ _ h10
    have h11 := s22 _ _ h11
    have h12 := s22 _ _ h12
    have h13 := s22 _ _ h13
    have h14 := s22 _ _ h14
    have h15 := s22 _ _ h15
    have h16 := s22 _ _ h16
    have h17 := s22 _ _ h17
    have h18 := s22 _ _ h18
    have h19 := s22 _ _ h19
    have h20 := s22 _ _ h20
    have h21 := s22 _ _ h21
    have hW := s22 _ _ hW
    refine ⟨(by show 8 ≤ sizeLine; decide), fun p23 n23 => ?_⟩
    have s23 := same_new (H := G22) (o := .lst ([V.ref p16, V.non, V.str ("" : Str), V.ref p17, V.int 0, V.ref p18, V.ref p21, V.ref p22])) n23
    have h23 := upd_same (H := G22) (a := p23) (o := .lst ([V.ref p16, V.non, V.str ("" : Str), V.ref p17, V.int 0, V.ref p18, V.ref p21, V.ref p22]))
    have a23 := (S2.same sx).away n23
    revert s23 h23
    generalize upd G22 p23 (.lst ([V.ref p16, V.non, V.str ("" : Str), V.ref p17, V.int 0, V.ref p18, V.ref p21, V.ref p22])) = G23
    intro s23 h23
    have sx := sx.trans s23
    have h1 := s23 _ _ h1
    have h2 := s23 _ _ h2
    have h3 := s23 _ _ h3
    have h4 := s23 _ _ h4
    have h5 := s23 _ _ h5
    have h6 := s23 _ _ h6
    have h7 := s23 _ _ h7
    have h8 := s23 _ _ h8
    have h9 := s23 _ _ h9
    have h10 := s23 _ _ h10
    have h11 := s23 _ _ h11
    have h12 := s23 _ _ h12
    have h13 := s23 _ _ h13
    have h14 := s23 _ _ h14
    have h15 := s23 _ _ h15
    have h16 := s23 _ _ h16
    have h17 := s23 _ _ h17
    have h18 := s23 _ _ h18
    have h19 := s23 _ _ h19
    have h20 := s23 _ _ h20
    have h21 := s23 _ _ h21
    have h22 := s23 _ _ h22
    have hW := s23 _ _ hW
    refine ⟨p14, p23, _, _, rfl, rfl, h14, h23, sz (by (try simp only [List.length_append, List.length_map, List.length_cons, List.length_nil]); omega), fun p24 n24 => ?_⟩
    have s24 := same_new (H := G23) (o := .lst ([V.ref p5, V.ref p8, V.ref p9, V.ref p11, V.ref p13] ++ [V.ref p16, V.non, V.str ("" : Str), V.ref p17, V.int 0, V.ref p18, V.ref p21, V.ref p22])) n24
    have h24 := upd_same (H := G23) (a := p24) (o := .lst ([V.ref p5, V.ref p8, V.ref p9, V.ref p11, V.ref p13] ++ [V.ref p16, V.non, V.str ("" : Str), V.ref p17, V.int 0, V.ref p18, V.ref p21, V.ref p22]))
    have a24 := (S2.same sx).away n24
    revert s24 h24
    generalize upd G23 p24 (.lst ([V.ref p5, V.ref p8, V.ref p9, V.ref p11, V.ref p13] ++ [V.ref p16, V.non, V.str ("" : Str), V.ref p17, V.int 0, V.ref p18, V.ref p21, V.ref p22])) = G24
    intro s24 h24
    have sx := sx.trans s24
    have h1 := s24 _ _ h1
    have h2 := s24 _ _ h2
    have h3 := s24 _ _ h3
    have h4 := s24 _ _ h4
    have h5 := s24 _ _ h5
    have h6 := s24 _ _ h6
    have h7 := s24 _ _ h7
    have h8 := s24 _ _ h8
    have h9 := s24 _ _ h9
    have h10 := s24 _ _ h10
    have h11 := s24 _ _ h11
    have h12 := s24 _ _ h12
    have h13 := s24 _ _ h13
    have h14 := s24 _ _ h14
    have h15 := s24 _ _ h15
    have h16 := s24 _ _ h16
    have h17 := s24 _ _ h17
    have h18 := s24 _ _ h18
    have h19 := s24 _ _ h19
    have h20 := s24 _ _ h20
    have h21 := s24 _ _ h21
    have h22 := s24 _ _ h22
    have h23 := s24 _ _ h23
    have hW := s24 _ _ hW
    refine ⟨_, rfl, _, rfl, _, rfl, n, _, rfl, get_rls (sx _ _ (mask_same _ _ (e2 _ _ g1))), RA, _, rfl, .inl (.inl (.inl (sx _ _ (mask_same _ _ (e2 _ _ g3))))), (by show 1 ≤ sizeLine; decide), fun p25 n25 => ?_⟩
    have s25 := same_new (H := G24) (o := .lst ([V.int (((bs.map V.ref).length : Nat) : Int)])) n25
    have h25 := upd_same (H := G24) (a := p25) (o := .lst ([V.int (((bs.map V.ref).length : Nat) : Int)]))
    have a25 := (S2.same sx).away n25
    revert s25 h25
    generalize upd G24 p25 (.lst ([V.int (((bs.map V.ref).length : Nat) : Int)])) = G25
    intro s25 h25
    have sx := sx.trans s25
    have h1 := s25 _ _ h1
    have h2 := s25 _ _ h2
    have h3 := s25 _ _ h3
    have h4 := s25 _ _ h4
    have h5 := s25 _ _ h5
    have h6 := s25 _ _ h6
    have h7 := s25 _ _ h7
    have h8 := s25 _ _ h8
    have h9 := s25 _ _ h9
    have h10 := s25 _ _ h10
    have h11 := s25 _ _ h11
    have h12 := s25 _ _ h12
    have h13 := s25 _ _ h13
    have h14 := s25 _ _ h14
    have h15 := s25 _ _ h15
    have h16 := s25 _ _ h16
    have h17 := s25 _ _ h17
    have h18 := s25 _ _ h18
    have h19 := s25 _ _ h19
    have h20 := s25 _ _ h20
    have h21 := s25 _ _ h21
    have h22 := s25 _ _ h22
    have h23 := s25 _ _ h23
    have h24 := s25 _ _ h24
    have hW := s25 _ _ hW
    refine ⟨W, p25, _, _, rfl, rfl, hW, h25, sz (by (try simp only [List.length_append, List.length_map, List.length_cons, List.length_nil]); omega), fun p26 n26 => ?_⟩
    have s26 := same_new (H := G25) (o := .lst ((ks.map V.int) ++ [V.int (((bs.map V.ref).length : Nat) : Int)])) n26
    have h26 := upd_same (H := G25) (a := p26) (o := .lst ((ks.map V.int) ++ [V.int (((bs.map V.ref).length : Nat) : Int)]))
    have a26 := (S2.same sx).away n26
    revert s26 h26
    generalize upd G25 p26 (.lst ((ks.map V.int) ++ [V.int (((bs.map V.ref).length : Nat) : Int)])) = G26
    intro s26 h26
    have sx := sx.trans s26
    have h1 := s26 _ _ h1
    have h2 := s26 _ _ h2
    have h3 := s26 _ _ h3
    have h4 := s26 _ _ h4
    have h5 := s26 _ _ h5
    have h6 := s26 _ _ h6
    have h7 := s26 _ _ h7
    have h8 := s26 _ _ h8
    have h9 := s26 _ _ h9
    have h10 := s26 _ _ h10
    have h11 := s26 _ _ h11
    have h12 := s26 _ _ h12
    have h13 := s26 _ _ h13
    have h14 := s26 _ _ h14
    have h15 := s26 _ _ h15
    have h16 := s26 _ _ h16
    have h17 := s26 _ _ h17
    have h18 := s26 _ _ h18
    have h19 := s26 _ _ h19
    have h20 := s26 _ _ h20
    have h21 := s26 _ _ h21
    have h22 := s26 _ _ h22
    have h23 := s26 _ _ h23
    have h24 := s26 _ _ h24
    have h25 := s26 _ _ h25
    have hW := s26 _ _ hW
    refine ⟨p26, _, rfl, .inl ⟨SqL.of h26, fun p27 n27 => ?_⟩⟩
    have s27 := same_new (H := G26) (o := .tup ((ks.map V.int) ++ [V.int (((bs.map V.ref).length : Nat) : Int)])) n27
    have h27 := upd_same (H := G26) (a := p27) (o := .tup ((ks.map V.int) ++ [V.int (((bs.map V.ref).length : Nat) : Int)]))
    have a27 := (S2.same sx).away n27
    revert s27 h27
    generalize upd G26 p27 (.tup ((ks.map V.int) ++ [V.int (((bs.map V.ref).length : Nat) : Int)])) = G27
    intro s27 h27
    have sx := sx.trans s27
    have h1 := s27 _ _ h1
    have h2 := s27 _ _ h2
    have h3 := s27 _ _ h3
    have h4 := s27 _ _ h4
    have h5 := s27 _ _ h5
    have h6 := s27 _ _ h6
    have h7 := s27 _ _ h7
    have h8 := s27 _ _ h8
    have h9 := s27 _ _ h9
    have h10 := s27 _ _ h10
    have h11 := s27 _ _ h11
    have h12 := s27 _ _ h12
    have h13 := s27 _ _ h13
    have h14 := s27 _ _ h14
    have h15 := s27 _ _ h15
    have h16 := s27 _ _ h16
    have h17 := s27 _ _ h17
    have h18 := s27 _ _ h18
    have h19 := s27 _ _ h19
    have h20 := s27 _ _ h20
    have h21 := s27 _ _ h21
    have h22 := s27 _ _ h22
    have h23 := s27 _ _ h23
    have h24 := s27 _ _ h24
    have h25 := s27 _ _ h25
    have h26 := s27 _ _ h26
    have hW := s27 _ _ hW
    refine ⟨(by show 1 ≤ sizeLine; decide), fun p28 n28 => ?_⟩
    have s28 := same_new (H := G27) (o := .lst ([V.ref p27])) n28
    have h28 := upd_same (H := G27) (a := p28) (o := .lst ([V.ref p27]))
    have a28 := (S2.same sx).away n28
    revert s28 h28
    generalize upd G27 p28 (.lst ([V.ref p27])) = G28
    intro s28 h28
    have sx := sx.trans s28
    have h1 := s28 _ _ h1
    have h2 := s28 _ _ h2
    have h3 := s28 _ _ h3
    have h4 := s28 _ _ h4
    have h5 := s28 _ _ h5
    have h6 := s28 _ _ h6
    have h7 := s28 _ _ h7
    have h8 := s28 _ _ h8
    have h9 := s28 _ _ h9
    have h10 := s28 _ _ h10
    have h11 := s28 _ _ h11
    have h12 := s28 _ _ h12
    have h13 := s28 _ _ h13
    have h14 := s28 _ _ h14
    have h15 := s28 _ _ h15
    have h16 := s28 _ _ h16
    have h17 := s28 _ _ h17
    have h18 := s28 _ _ h18
    have h19 := s28 _ _ h19
    have h20 := s28 _ _ h20
    have h21 := s28 _ _ h21
    have h22 := s28 _ _ h22
    have h23 := s28 _ _ h23
    have h24 := s28 _ _ h24
    have h25 := s28 _ _ h25
    have h26 := s28 _ _ h26
    have h27 := s28 _ _ h27
    have hW := s28 _ _ hW
    refine ⟨p24, p28, _, _, rfl, rfl, h24, h28, sz (by (try simp only [List.length_append, List.length_map, List.length_cons, List.length_nil]); omega), fun p29 n29 => ?_⟩
    have s29 := same_new (H := G28) (o := .lst (([V.ref p5, V.ref p8, V.ref p9, V.ref p11, V.ref p13] ++ [V.ref p16, V.non, V.str ("" : Str), V.ref p17, V.int 0, V.ref p18, V.ref p21, V.ref p22]) ++ [V.ref p27])) n29
    have h29 := upd_same (H := G28) (a := p29) (o := .lst (([V.ref p5, V.ref p8, V.ref p9, V.ref p11, V.ref p13] ++ [V.ref p16, V.non, V.str ("" : Str), V.ref p17, V.int 0, V.ref p18, V.ref p21, V.ref p22]) ++ [V.ref p27]))
    have a29 := (S2.same sx).away n29
    revert s29 h29
    generalize upd G28 p29 (.lst (([V.ref p5, V.ref p8, V.ref p9, V.ref p11, V.ref p13] ++ [V.ref p16, V.non, V.str ("" : Str), V.ref p17, V.int 0, V.ref p18, V.ref p21, V.ref p22]) ++ [V.ref p27])) = G29
    intro s29 h29
    have sx := sx.trans s29
    have h1 := s29 _ _ h1
    have h2 := s29 _ _ h2
    have h3 := s29 _ _ h3
    have h4 := s29 _ _ h4
    have h5 := s29 _ _ h5
    have h6 := s29 _ _ h6
    have h7 := s29 _ _ h7
    have h8 := s29 _ _ h8
    have h9 := s29 _ _ h9
    have h10 := s29 _ _ h10
    have h11 := s29 _ _ h11
    have h12 := s29 _ _ h12
    have h13 := s29 _ _ h13
    have h14 := s29 _ _ h14
    have h15 := s29 _ _ h15
    have h16 := s29 _ _ h16
    have h17 := s29 _ _ h17
    have h18 := s29 _ _ h18
    have h19 := s29 _ _ h19
    have h20 := s29 _ _ h20
    have h21 := s29 _ _ h21
    have h22 := s29 _ _ h22
    have h23 := s29 _ _ h23
    have h24 := s29 _ _ h24
    have h25 := s29 _ _ h25
    have h26 := s29 _ _ h26
    have h27 := s29 _ _ h27
    have h28 := s29 _ _ h28
    have hW := s29 _ _ hW
    have fi := FlL.ints ks
    have jl : ∀ {p : Addr} {xs : List V}, G29 p = some (.lst xs) → (p ≠ d ∧ p ≠ c) → FlL xs → xs.length ≤ 210 → ∃ xo, (∀ G, LamX.ExtN (mask d c G29) G → Jd K G (.ref p) xo) ∧ ∀ xs, xo = some xs → xs.length ≤ 210 := fun {p xs} h a fl few => ⟨some xs, fun G e => .lst (e _ _ (mask_at a h) (by nofun)) fun x hx => (fl x hx).od, fun ys e => by cases e; exact few⟩
    have jf : ∀ {v : V} {T : String}, (∀ H, TyX K H v (.type T)) → kitB T "list" = some false → kitB T "tuple" = some false → ∃ xo, (∀ G, LamX.ExtN (mask d c G29) G → Jd K G v xo) ∧ ∀ xs, xo = some xs → xs.length ≤ 210 := fun t h1 h2 => ⟨none, fun G _ => jd_flat t h1 h2, nofun⟩
    have mW9 := (sub_same (d := d) (c := c) sx) _ _ (e2 _ _ mW)
    refine kend p29 _ G29 (S2.same sx) (K02.trans (Keep.of sx)) (mask_at a29 h29) (fun v hv => ?_) (by simp)
    simp only [List.mem_append, List.mem_cons, List.not_mem_nil, or_false] at hv
    rcases hv with ((rfl | rfl | rfl | rfl | rfl) | (rfl | rfl | rfl | rfl | rfl | rfl | rfl | rfl)) | rfl
    · exact jl h5 a5 ((fi.cut.app (FlL.one (x := V.int other) True.intro)).app fi.cut) (by simp only [List.length_append, List.length_map, List.length_cons, List.length_nil]; omega)
    · exact jl h8 a8 (fi.cut.app fi.cut) (by simp only [List.length_append, List.length_map, List.length_cons, List.length_nil]; omega)
    · exact jl h9 a9 (fun x hx => fi x (List.mem_reverse.mp hx)) (by simp only [List.length_reverse, List.length_map]; omega)
    · exact jl h11 a11 (fi.app (.one True.intro)) (by simp only [List.length_append, List.length_map, List.length_cons, List.length_nil]; omega)
    · exact jl h13 a13 (fi.app (.one True.intro)) (by simp only [List.length_append, List.length_map, List.length_cons, List.length_nil]; omega)
    · exact jl h16 a16 (fi.app (.one True.intro)) (by simp only [List.length_append, List.length_map, List.length_cons, List.length_nil]; omega)
    · exact jf (fun _ => .base .non) (by decide +kernel) (by decide +kernel)
    · exact jf (fun _ => .base (.str _)) (by decide +kernel) (by decide +kernel)
    · exact ⟨none, fun G e => .no (fun _ z => .base (.dK (z _ _ (e _ _ (mask_at a17 h17) (by nofun))))) (kitLT0 (by decide +kernel) (by decide +kernel)), nofun⟩
    · exact jf (fun _ => .base (.int _)) (by decide +kernel) (by decide +kernel)
    · refine ⟨some _, fun G e => .tup (e _ _ (mask_at a18 h18) (by nofun)) fun x hx => ?_, fun ys z => by cases z; show 1 ≤ 210; decide⟩
      cases List.mem_singleton.mp hx
      exact ⟨_, _, e _ _ mW9 (by nofun), rfl⟩
    · exact jl h21 a21 (fi.cut.app (.one True.intro)) (by simp only [List.length_append, List.length_map, List.length_cons, List.length_nil]; omega)
    · exact jl h22 a22 (fi.app fi) (by simp only [List.length_append, List.length_map, List.length_cons, List.length_nil]; omega)
    · exact ⟨some _, fun G e => .tup (e _ _ (mask_at a27 h27) (by nofun)) fun x hx => ((fi.app (FlL.one (x := V.int _) True.intro)) x hx).od, fun ys z => by cases z; simp only [List.length_append, List.length_map, List.length_cons, List.length_nil]; omega⟩
end
end K07
namespace K07
open PySem PySem.Spec L2 Rt
open PyProof.Rows hiding St

abbrev sFar : Stmt := top 38
def spFar : Sp := fun vs H Q _ => ∃ (d c : Addr) (most ties : Nat), vs = [.ref d, .int most, .int ties] ∧ Src H d c ∧ 1 ≤ most ∧ most ≤ 50 ∧ 1 ≤ ties ∧ ties ≤ 50 ∧
  ∀ (n : Addr) (ps : List Pt) (rs : List Rl) (H' : Hp), LNet (mask d c H') n ps rs → Good ps rs → (∀ p, p ∈ ps → 1 ≤ p.2.2 ∧ p.2.2 ≤ 60 ∧ p.2.2.toNat ∣ 1562701140) → (∀ r, r ∈ rs → r.2.2.natAbs ≤ 10 ^ 30) → 0 < ps.length → ps.length ≤ most → rs.length ≤ ties → Src H' d c → Keep d c H H' → Q (.ref n) H'
section
variable {P : Program} {w : World} {K : PySem.W.Frag} {mg : Str → Option Value} {base : Heap} {f : Addr} {fd : FuncData}
theorem scFar : FnScope ["source", "most", "ties", "names", "steps", "far", "points", "rules", "lap", "start", "end", "name"] ["source", "most", "ties"] (defScope sFar) := ⟨rfl, rfl, rfl, by decide +kernel, rfl, by decide +kernel, by decide +kernel⟩
theorem ok_far (F : Fun K "_law_far_net" "_law_far_net" sFar f fd) (T : Lw mg) (cP : Cb P w K mg base 1 "_law_pick" spPick) (cO : Cb P w K mg base 2 "_law_of" spOf) (cN : Cb P w K mg base 2 "_law_names" spNames) : FnG P w K mg base 4 f fd ["source", "most", "ties"] spFar := by
  refine okG F scFar (fun vs H Q E h => ?_) (fun cdv A outer s H vs Q E hg hr h => ?_)
  · obtain ⟨d, c, m, t, rfl, _⟩ := h
    rfl
  · obtain ⟨d, c, m, t, rfl, S, hm1, hm2, ht1, ht, k⟩ := h
    refine ⟨_, (pss_cons (ps_set (i := 3) scFar.nd rfl (.inl rfl) (pe_k cN hg hr (by decide) (by rfl) (pa_cons (pv 0) (pa_cons (pe_op op_add pe_int (pe_k cP hg hr (by decide) (by rfl) (pa_cons (pv 0) (pa_cons (pv 1) pa_nil)))) pa_nil))))
      (pss_cons (ps_set (i := 4) scFar.nd rfl (.inr rfl) (pe_k cO hg hr (by decide) (by rfl) (pa_cons (pv 0) (pa_cons (pe_lst (pa_cons (pe_lst (pa_cons pe_int (pa_cons pe_int (pa_cons pe_int pa_nil)))) (pa_cons (pe_lst (pa_cons pe_int (pa_cons pe_int pa_nil))) (pa_cons (pe_lst (pa_cons pe_int (pa_cons pe_int (pa_cons pe_int pa_nil)))) pa_nil)))) pa_nil))))
      (pss_cons (ps_set (i := 5) scFar.nd rfl (.inr rfl) (pe_k cO hg hr (by decide) (by rfl) (pa_cons (pv 0) (pa_cons (pe_lst (pa_cons pe_int (pa_cons (pe_op op_sub (pe_op op_pow pe_int pe_int) pe_int) (pa_cons (pe_op op_sub pe_int (pe_op op_pow pe_int pe_int)) pa_nil)))) pa_nil))))
      (pss_cons (ps_setLc (i := 6) (own := [("name", 11)]) rfl scFar.nd rfl rfl (sw_true rfl rfl rfl (by decide +kernel)) (pi_list (pv 3)) (blkOk_by (N := ["source", "most", "ties", "names", "steps", "far", "points", "rules", "lap", "start", "end", "name"]) (sc := defScope sFar) (by decide +kernel)) (fun _ _ _ _ _ => (pg_name (i := 11) scFar.nd rfl (.inl rfl))) (fun _ _ _ _ _ => pts_nil) (fun _ _ _ _ _ => (pe_tup (pa_cons (pv 11) (pa_cons (pe_op op_sub (pe_op op_add (pv 5) (pe_k cP hg hr (by decide) (by rfl) (pa_cons (pv 0) (pa_cons pe_int pa_nil)))) pe_int) (pa_cons (pe_k cO hg hr (by decide) (by rfl) (pa_cons (pv 0) (pa_cons (pv 4) pa_nil))) pa_nil))))))
      (pss_cons (ps_set (i := 7) scFar.nd rfl (.inl rfl) (pe_lst pa_nil))
      (pss_cons (ps_for PassesOwn.never rfl (pi_range1 (by rfl) T.zrange (pa_cons (pe_op op_add pe_int (pe_k cP hg hr (by decide) (by rfl) (pa_cons (pv 0) (pa_cons (pv 2) pa_nil)))) pa_nil)) (pg_name (i := 8) scFar.nd rfl (.inl rfl))
        (pss_cons (ps_par (i := 9) (j := 10) rfl scFar.nd rfl rfl (by decide) rfl rfl (pa_cons (pe_k cO hg hr (by decide) (by rfl) (pa_cons (pv 0) (pa_cons (pv 3) pa_nil))) (pa_cons (pe_k cO hg hr (by decide) (by rfl) (pa_cons (pv 0) (pa_cons (pv 3) pa_nil))) pa_nil)) (by rfl))
        (pss_one (ps_expr (pe_bm PySem.F.plainAttrs_list PySem.F.slot_list_append PySem.F.type_list_append mt_append (pv 7) (pa_cons (pe_tup (pa_cons (pv 9) (pa_cons (pv 10) (pa_cons (pe_k cO hg hr (by decide) (by rfl) (pa_cons (pv 0) (pa_cons (pe_lst (pa_cons (pe_op op_sub (pe_k cP hg hr (by decide) (by rfl) (pa_cons (pv 0) (pa_cons pe_int pa_nil))) pe_int) (pa_cons (pe_op op_pow pe_int pe_int) (pa_cons (pe_un un_neg (pe_op op_pow pe_int pe_int)) pa_nil)))) pa_nil))) pa_nil)))) pa_nil))))))
      (pss_one (ps_ret (pe_disp (pps_cons pe_str (pv 6) (pps_cons pe_str (pv 7) pps_nil)) (by rfl) (by rfl) (fun z => by cases z) (by decide)))))))))), ?_⟩
    -- names, steps
    refine ⟨_, rfl, _, rfl, _, rfl, d, c, _, rfl, S, (by omega), fun r H1 r0 r1 S1 k1 => ?_⟩
    have er : ∃ n : Nat, r = (n : Int) := ⟨r.toNat, (Int.toNat_of_nonneg r0).symm⟩
    obtain ⟨n, rfl⟩ := er
    refine ⟨_, _, rfl, rfl, d, c, 1 + n, by rw [Int.natCast_add]; rfl, S1, by omega, fun L ws H2 nL S2 k2 hL lw wok wnd => ?_⟩
    have aL := S1.away nL
    have mL := mask_at aL hL
    refine ⟨_, rfl, (by show 3 ≤ sizeLine; decide), fun q1 nq1 => ⟨(by show 2 ≤ sizeLine; decide), fun q2 nq2 => ⟨(by show 3 ≤ sizeLine; decide), fun q3 nq3 => ⟨(by show 3 ≤ sizeLine; decide), fun lq nlq => ?_⟩⟩⟩⟩
    have T1 := S2.new (o := .lst (([7, 11, 13] : List Int).map V.int)) nq1
    have T2 := T1.new (o := .lst (([59, 60] : List Int).map V.int)) nq2
    have T3 := T2.new (o := .lst (([60, 49, 9] : List Int).map V.int)) nq3
    have T4 := T3.new (o := .lst [.ref q1, .ref q2, .ref q3]) nlq
    refine ⟨d, c, lq, [.ref q1, .ref q2, .ref q3], rfl, T4, upd_same, (T3.away nlq).2, (by show 0 < 3; decide), (by show 3 < 1000000000; decide), fun jq vq H3 hvq S3 k3 => ?_⟩
    have z1 := mask_new (d := d) (c := c) (o := .lst (([59, 60] : List Int).map V.int)) nq2
    have z2 := mask_new (d := d) (c := c) (o := .lst (([60, 49, 9] : List Int).map V.int)) nq3
    have z3 := mask_new (d := d) (c := c) (o := .lst [.ref q1, .ref q2, .ref q3]) nlq
    have w1 := mask_keep k3 _ _ (z3 _ _ (z2 _ _ (z1 _ _ (mask_at (S2.away nq1) (upd_same (H := H2) (a := q1) (o := .lst (([7, 11, 13] : List Int).map V.int)))))))
    have w2 := mask_keep k3 _ _ (z3 _ _ (z2 _ _ (mask_at (T1.away nq2) upd_same)))
    have w3 := mask_keep k3 _ _ (z3 _ _ (mask_at (T2.away nq3) upd_same))
    have k23 : Keep d c H2 H3 := ((((Keep.refl.new nq1).new nq2).new nq3).new nlq).trans k3
    obtain ⟨q, ss, rfl, hq, okS⟩ : ∃ (q : Addr) (ss : List Int), vq = .ref q ∧ mask d c H3 q = some (.lst (ss.map V.int)) ∧ ss ≠ [] ∧ ss.length ≤ 3 ∧ ∀ s, s ∈ ss → 1 ≤ s ∧ s ≤ 60 ∧ s.toNat ∣ 1562701140 := by
      have mm := List.mem_of_getElem? hvq
      simp only [List.mem_cons, List.not_mem_nil, or_false] at mm
      rcases mm with rfl | rfl | rfl
      · exact ⟨q1, [7, 11, 13], rfl, w1, by decide, by decide, by decide +kernel⟩
      · exact ⟨q2, [59, 60], rfl, w2, by decide, by decide, by decide +kernel⟩
      · exact ⟨q3, [60, 49, 9], rfl, w3, by decide, by decide, by decide +kernel⟩
    clear w1 w2 w3 z1 z2 z3 T1 T2 T3 T4 hvq
    -- far
    refine ⟨_, rfl, _, _, rfl, rfl, ⟨by decide, by decide, by decide⟩, _, _, rfl, rfl, _, _, rfl, rfl, ⟨by decide, by decide, by decide⟩, _, _, rfl, rfl, (by show 3 ≤ sizeLine; decide), fun lf nf => ?_⟩
    refine ⟨d, c, lf, _, rfl, S3.new nf, upd_same, (S3.away nf).2, (by show 0 < 3; decide), (by show 3 < 1000000000; decide), fun j v H5 hv S5 k5 => ?_⟩
    obtain ⟨far, rfl⟩ : ∃ z, v = V.int z := by
      have mm := List.mem_of_getElem? hv
      simp only [List.mem_cons, List.not_mem_nil, or_false] at mm
      rcases mm with e | e | e
      · exact ⟨_, e⟩
      · exact ⟨_, e⟩
      · exact ⟨_, e⟩
    clear hv
    have k35 := (Keep.refl.new nf).trans k5
    have g5 : Same (mask d c H3) (mask d c H5) := mask_keep k35
    have mL5 := g5 _ _ ((mask_keep k23) _ _ mL)
    have hq5 := g5 _ _ hq
    have t5 : Keep d c H H5 := ((k1.trans k2).trans k23).trans k35
    -- points
    refine ⟨_, rfl, L, rfl, ⟨_, SqL.of (mask_same _ _ mL5)⟩, fun D nD => ?_⟩
    have aD := S5.away nD
    refine lc_it walk_list (fun i H6 => ∃ (as : List Addr) (ps : List Pt), Keep d c H5 H6 ∧ Src H6 d c ∧ mask d c H6 D = some (.lst (as.map V.ref)) ∧ Row ptV (mask d c H6) as ps ∧ namesOf ps = ws.take i ∧ ∀ p, p ∈ ps → 1 ≤ p.2.2 ∧ p.2.2 ≤ 60 ∧ p.2.2.toNat ∣ 1562701140)
      ⟨[], [], Keep.refl.new nD, S5.new nD, mask_at aD upd_same, ⟨rfl, fun i a p h => nomatch h⟩, rfl, fun p h => nomatch h⟩ (fun i H6 _ ⟨_, _, z, _⟩ => SqL.of (mask_same _ _ (mask_keep z _ _ mL5))) ?_ ?_
    · rintro i y H6 H7 hi ⟨as, ps, k6, S6, hD, row, en, okp⟩ ⟨rfl, hy⟩
      have hi' : i < ws.length := by rw [List.length_map] at hi; exact hi
      obtain rfl : V.str ws[i] = y := by
        rw [List.getElem?_map, List.getElem?_eq_getElem hi'] at hy
        exact Option.some.inj hy
      refine ⟨rfl, _, rfl, _, rfl, _, rfl, d, c, _, rfl, S6, (by decide), fun r8 H8 r80 r81 S8 k8 => ?_⟩
      refine ⟨_, _, rfl, rfl, _, _, rfl, rfl, _, rfl, _, rfl, d, c, q, ss.map V.int, rfl, S8, mask_same _ _ ((mask_keep (k6.trans k8)) _ _ hq5), ?_, by rw [List.length_map]; exact List.length_pos_iff.mpr okS.1, by rw [List.length_map]; have := okS.2.1; omega, fun j9 v9 H9 hv9 S9 k9 => ?_⟩
      · intro z
        rw [z] at hq5
        unfold mask at hq5
        rw [if_pos (.inr rfl)] at hq5
        cases hq5
      obtain ⟨st, hst, rfl⟩ := int_at hv9
      have b12 := okS.2.2 st (List.mem_of_getElem? hst)
      refine ⟨(by show 3 ≤ sizeLine; decide), fun tp ntp => ?_⟩
      have atp := S9.away ntp
      have g9 : Same (mask d c H7) (mask d c (upd H9 tp (.tup [.str ws[i], .int (far + r8 - 12), .int st]))) := (mask_keep (k8.trans k9)).trans (mask_new ntp)
      have hD9 := g9 _ _ hD
      have htp : mask d c (upd H9 tp (.tup [.str ws[i], .int (far + r8 - 12), .int st])) tp = some (ptV (ws[i], far + r8 - 12, st)) := mask_at atp upd_same
      have row9 := (row.same g9).snoc htp
      have DD : D ∉ as ++ [tp] := row_not row9 hD9 (fun p z => by cases z)
      refine ⟨as.map V.ref, mask_same _ _ hD9, small1000 ?_, as ++ [tp], ps ++ [(ws[i], far + r8 - 12, st)], ?_, ?_, ?_, row9.but mask_but DD, ?_, ?_⟩
      · rw [List.length_map, row.1, ← List.length_map (f := fun p : Pt => p.1), show (ps.map fun p => p.1) = ws.take i from en, List.length_take]
        omega
      · exact (((k6.trans k8).trans k9).new ntp).put nD
      · exact (S9.new ntp).put aD
      · refine mask_at aD ?_
        rw [upd_same, List.map_append]
        rfl
      · rw [List.take_succ, List.getElem?_eq_getElem hi', ← en]
        exact List.map_append
      · intro p hp
        rcases List.mem_append.mp hp with h | h
        · exact okp p h
        · cases List.mem_singleton.mp h
          exact b12
    · rintro H6 ⟨as, ps, k6, S6, hD, row, en, okp⟩
      have e1 : ws.take (ws.map V.str).length = ws := List.take_of_length_le (by rw [List.length_map]; exact Nat.le_refl _)
      rw [e1] at en
      have lps : ps.length = 1 + n := by rw [← lw, ← en, List.length_map]
      have nL0 : L ≠ c := aL.2
      refine ⟨(by show 0 ≤ sizeLine; decide), fun R nR => ?_⟩
      have aR := S6.away nR
      have S7 := S6.new (o := .lst []) nR
      refine ⟨_, rfl, _, rfl, d, c, _, rfl, S7, by omega, fun rr H8 q0 q1 S8 k8 => ⟨_, _, rfl, rfl, _, rfl, by omega, by omega, ?_⟩⟩
      have mR8 : mask d c H8 R = some (.lst []) := mask_keep k8 _ _ (mask_at aR upd_same)
      have k68 : Keep d c H6 H8 := (Keep.refl.new nR).trans k8
      refine for_range (lo := 0) (fun i σ H9 => ∃ (v8 v9 v10 v11 : Option V) (bs : List Addr) (rs : List Rl), σ = [some (.ref d), some (.int m), some (.int t), some (.ref L), some (.ref q), some (.int far), some (.ref D), some (.ref R), v8, v9, v10, v11] ∧
          Keep d c H6 H9 ∧ Src H9 d c ∧ mask d c H9 R = some (.lst (bs.map V.ref)) ∧ Row rlV (mask d c H9) bs rs ∧ rs.length = i ∧ ∀ r, r ∈ rs → r.1 ∈ ws ∧ r.2.1 ∈ ws ∧ r.2.2.natAbs ≤ 10 ^ 30)
        ⟨_, _, _, _, [], [], rfl, k68, S8, mR8, ⟨rfl, fun i a p h => nomatch h⟩, rfl, fun r h => nomatch h⟩ ?_ ?_
      · rintro i σ H9 hi ⟨v8, v9, v10, v11, bs, rs, rfl, k9, S9, hR, row9, lr, okr⟩
        have hL9 : ∀ {H'}, Keep d c H9 H' → H' L = some (.lst (ws.map V.str)) := fun z => mask_same _ _ (mask_keep ((k6.trans k9).trans z) _ _ mL5)
        refine ⟨_, rfl, _, rfl, d, c, L, ws.map V.str, rfl, S9, hL9 Keep.refl, nL0, by rw [List.length_map]; omega, by rw [List.length_map]; omega, fun ja va Ha hva Sa ka => ?_⟩
        refine ⟨_, rfl, _, rfl, d, c, L, ws.map V.str, rfl, Sa, hL9 ka, nL0, by rw [List.length_map]; omega, by rw [List.length_map]; omega, fun jb vb Hb hvb Sb kb => ?_⟩
        obtain ⟨wa, rfl, ma⟩ := str_at hva
        obtain ⟨wb, rfl, mb⟩ := str_at hvb
        refine ⟨_, _, rfl, ?_⟩
        have mRb := mask_keep (ka.trans kb) _ _ hR
        refine ⟨_, rfl, .inl ⟨rfl, _, SqL.of (mask_same _ _ mRb)⟩, _, rfl, _, rfl, ?_⟩
        refine ⟨_, rfl, _, rfl, d, c, 90, rfl, Sb, by decide, fun rc Hc c0 c1 Sc kc => ?_⟩
        refine ⟨_, _, rfl, rfl, _, _, rfl, rfl, ⟨by decide, by decide, by decide⟩, _, _, rfl, rfl, ⟨by decide, by decide, by decide⟩, _, rfl, (by show 3 ≤ sizeLine; decide), fun lz nlz => ?_⟩
        refine ⟨d, c, lz, _, rfl, Sc.new nlz, upd_same, (Sc.away nlz).2, (by show 0 < 3; decide), (by show 3 < 1000000000; decide), fun jd vd Hd hvd Sd kd => ?_⟩
        obtain ⟨z, rfl, bz⟩ : ∃ z, vd = V.int z ∧ z.natAbs ≤ 10 ^ 30 := by
          have m := List.mem_of_getElem? hvd
          simp only [List.mem_cons, List.not_mem_nil, or_false] at m
          rcases m with e | e | e
          · exact ⟨_, e, by omega⟩
          · exact ⟨_, e, by decide +kernel⟩
          · exact ⟨_, e, by decide +kernel⟩
        refine ⟨(by show 3 ≤ sizeLine; decide), fun tp ntp => ?_⟩
        have atp := Sd.away ntp
        have kk : Keep d c H9 (upd Hd tp (.tup [.str wa, .str wb, .int (z)])) := ((((ka.trans kb).trans kc).new nlz).trans kd).new ntp
        have hRd := mask_keep kk _ _ hR
        have htp : mask d c (upd Hd tp (.tup [.str wa, .str wb, .int (z)])) tp = some (rlV (wa, wb, z)) := mask_at atp upd_same
        have rowd := (row9.same (mask_keep kk)).snoc htp
        have RR : R ∉ bs ++ [tp] := row_not rowd hRd (fun p z => by cases z)
        refine ⟨R, _, _, rfl, rfl, mask_same _ _ hRd, small1000 (by rw [List.length_map, row9.1]; omega), ?_⟩
        refine ⟨_, _, _, _, bs ++ [tp], rs ++ [(wa, wb, z)], rfl, (k9.trans kk).put nR, (Sd.new ntp).put aR, mask_at aR ?_, rowd.but mask_but RR, by rw [List.length_append, lr]; rfl, ?_⟩
        · rw [upd_same, List.map_append]
          rfl
        · intro r hr
          rcases List.mem_append.mp hr with h | h
          · exact okr r h
          · cases List.mem_singleton.mp h
            exact ⟨ma, mb, bz⟩
      · rintro σ H9 ⟨v8, v9, v10, v11, bs, rs, rfl, k9, S9, hR, row9, lr, okr⟩
        intro nt nnt
        have ant := S9.away nnt
        refine ⟨_, rfl, _, rfl, upd_same, [(Sum.inr "points", .ref D), (Sum.inr "rules", .ref R)], rfl, (by show 2 ≤ 15; decide), ?_⟩
        rw [upd_upd, merge2 (by decide +kernel)]
        have gn : Same (mask d c H6) (mask d c (upd H9 nt (.dK [(Sum.inr "points", .ref D), (Sum.inr "rules", .ref R)]))) := (mask_keep k9).trans (mask_new nnt)
        have g9 := mask_new (d := d) (c := c) (o := .dK [(Sum.inr "points", .ref D), (Sum.inr "rules", .ref R)]) nnt
        refine k nt ps rs _ ⟨D, R, as, bs, mask_at ant upd_same, gn _ _ hD, g9 _ _ hR, row.same gn, row9.same g9⟩ ⟨fun p hp => ?_, ?_, by omega, fun r hr => ?_, by omega⟩ okp (fun r hr => (okr r hr).2.2) (by omega) (by omega) (by omega) (S9.new nnt) (((t5.trans k6).trans k9).new nnt)
        · have q := okp p hp
          refine ⟨wok _ ?_, q.1, q.2.1⟩
          rw [← en]
          exact List.mem_map_of_mem hp
        · rw [en]
          exact wnd
        · rw [en]
          exact ⟨(okr r hr).1, (okr r hr).2.1⟩

end
end K07
namespace Rt
open PySem PySem.Spec L2 LamX
open PyProof.Rows hiding St
/-! ### told: try: return (word, a()) / except X: return (word,) -/
def TToldT (K : PySem.W.Frag) (CS : Addr) (yes no : Str) : (XK → Hp → VK → Prop) → Hp → VK → Prop := fun tl H Q =>
  tl (fun cls _ H' => ∃ b, PySem.W.exmOne K cls (.ref CS) = some b ∧ (b = true → [V.str no].length ≤ sizeLine ∧ ∀ p, H' p = none → Q (.ref p) (upd H' p (.tup [.str no]))) ∧ (b = false → False)) H fun v H' => [V.str yes, v].length ≤ sizeLine ∧ ∀ p, H' p = none → Q (.ref p) (upd H' p (.tup [.str yes, v]))
section
variable {X : Cx}
theorem told_givesT {Ng : List Str} {x a e q yes no : Str} {sg : Scope} {g CS : Addr} {cdg : Value} {j1 j2 k1 k2 : Nat} {p1 p2 p3 p4 p6 p7 p8 t1 t2 t3 t4 : Pos} (hge : sg.names.lookup e = some .globalImplicit) (hme : X.mg e = some (.ref CS)) (hde : (e == ("__debug__" : Str)) = false) (h0 : ∀ f : Addr, (L2.start Ng [V.ref f])[0]? = some (some (V.ref f))) :
    GivesTo X Ng x sg g cdg [.Try [.Return (some (.Tuple [.Constant (.str yes) j1 t1, .Call (.Name a p1) [] [] p2] k1 t2)) p3] [.ExceptHandler (some (.Name e p4)) none [.Return (some (.Tuple [.Constant (.str no) j2 t3] k2 t4)) p6] p7] [] [] p8] a q (TToldT X.K CS yes no) := by
  intro f c' s H Q tl act hc h
  have hgl : Gl (cxOf C8.CX0 X.prog X.w X.K X.mg X.base Ng x sg g cdg X.A X.stack s H C8.E0).nox e := hge
  refine ⟨_, pss_one (ps_try_only (X := (cxOf C8.CX0 X.prog X.w X.K X.mg X.base Ng x sg g cdg X.A X.stack s H C8.E0).nox) (c := .ref CS)
      (tb := fun W D σ H => ∃ Ech : XK, (∀ cls d σ' H', Ech cls d H' → W cls d σ' H') ∧ σ[0]? = some (some (.ref f)) ∧ H c' = some (CodeO c' q) ∧ tl Ech H fun v H' => [V.str yes, v].length ≤ sizeLine ∧ ∀ p, H' p = none → D.rt (.ref p) (upd H' p (.tup [.str yes, v])))
      rfl rfl ⟨hgl, hde, .inl hme⟩ LamX.takes0 (fun W pn xe tk _ => ?_) (fun a oe cls d pn _ _ => pss_one (ps_ret (pe_tup (pa_cons pe_str pa_nil))))), ?_⟩
  · refine ⟨fun pins s' σ H' D I h' => ?_⟩
    obtain ⟨Ech, hW, h1, h2, h3⟩ := h'
    have hp := act W pn xe Ech p1 p2 tk hW
    have hq := pss_one (ps_ret (pos := p3) (pe_tup (x1 := k1) (pos := t2) (pa_cons (pe_str (x := yes) (j := j1) (pos := t1)) (pa_cons hp pa_nil))))
    exact hq.run pins s' σ H' D I ⟨h1, h2, h3⟩
  · exact ⟨fun cls _ H' => ∃ b, PySem.W.exmOne X.K cls (.ref CS) = some b ∧ (b = true → [V.str no].length ≤ sizeLine ∧ ∀ p, H' p = none → Q (.ref p) (upd H' p (.tup [.str no]))) ∧ (b = false → False), fun cls d σ' H' ⟨b, e1, e2, e3⟩ => ⟨b, e1, fun hb a _ => e2 hb, fun hb => e3 hb⟩, h0 f, hc, h⟩
end
end Rt
namespace Rt
open PySem PySem.Spec L2 LamX
open PyProof.Rows hiding St
/-! ### several except clauses, with names or without -/
abbrev Suite := Addr → Value → Option Addr → TS
inductive HdsA (X : Cx) : List ExceptHandler → List (Value × Option Nat × Suite) → Prop
  | none : HdsA X [] []
  | bare {x : Str} {c : Value} {ts : Suite} {s0 : Stmt} {more : List Stmt} {p q : Pos} {hds : List ExceptHandler} {l : List (Value × Option Nat × Suite)} (nm : Names X x c)
      (su : ∀ (a : Addr) (oe : Obj) (cls : Value) (d : Option Addr) (pn : List (Addr × Obj)), Zc cls d oe → (∃ vs, oe.data = .fields vs) → PSs (X.suite a ((a, oe) :: pn)) (s0 :: more) (ts a cls d)) (r : HdsA X hds l) :
      HdsA X (.ExceptHandler (some (.Name x p)) Option.none (s0 :: more) q :: hds) ((c, Option.none, ts) :: l)
  | named {x n : Str} {i : Nat} {c : Value} {ts : Suite} {s0 : Stmt} {more : List Stmt} {p q : Pos} {hds : List ExceptHandler} {l : List (Value × Option Nat × Suite)} (nm : Names X x c) (at_ : X.N[i]? = some n) (loc : X.env.kindOf n = some .local)
      (su : ∀ (a : Addr) (oe : Obj) (cls : Value) (d : Option Addr) (pn : List (Addr × Obj)), Zc cls d oe → (∃ vs, oe.data = .fields vs) → PSs (X.suite a ((a, oe) :: pn)) (s0 :: more) (ts a cls d)) (r : HdsA X hds l) :
      HdsA X (.ExceptHandler (some (.Name x p)) (some n) (s0 :: more) q :: hds) ((c, some i, ts) :: l)
/-- behind a suite the clause's name is gone -/
def unset (D : Ends) (i : Nat) : Ends := { nx := fun σ H => D.nx (σ.set i none) H, rt := D.rt, bk := fun σ H => D.bk (σ.set i none) H, ct := fun σ H => D.ct (σ.set i none) H }
def suiteOf (D : Ends) (σ : L2.St) (H : Hp) (cls : Value) (d : Option Addr) (ts : Suite) : Option Nat → Addr → Prop
  | none, a => ts a cls d D σ H
  | some i, a => ts a cls d (unset D i) (σ.set i (some (.ref a))) H
def wAny (K : PySem.W.Frag) (out : WX) (D : Ends) : List (Value × Option Nat × Suite) → WX
  | [] => out
  | (c, i, ts) :: l => fun cls d σ H => ∃ b, PySem.W.exmOne K cls c = some b ∧ (b = true → ∀ a, H a = none → suiteOf D σ H cls d ts i a) ∧ (b = false → wAny K out D l cls d σ H)
section
variable {X : Cx} {body : List Stmt} {h0 : ExceptHandler} {hds : List ExceptHandler} {l : List (Value × Option Nat × Suite)} {pos : Pos} {tb : WX → TS} {out : WX}
/-- a caught exception goes through the clauses -/
theorem clauses (frs_ : X.A.frames = some (X.env :: X.outer)) (fr : X.env.frame = some X.env.locals) (stk : X.stack = X.env :: X.outer) (nd : X.N.Nodup) (tk : Takes X out) {pins pins1 : List (Addr × Obj)} {σ1 : L2.St} {H1 : Hp} {D : Ends} {a : Addr} {B h3 : Heap} {sI s1 : Shared} {cls : Value} {d : Option Addr}
    (J : Inv X pins σ1 H1 sI) (nb : ∀ b o, sI.heap.get? b = some o → b ∉ frs X.stack → B.get? b = some o) (na : H1 a = none) (os : s1.os = sI.os) (ag : AllBare s1.gens)
    (fl : HandSPX.FlyingZ B (X.env :: X.outer) a (Zc cls d) h3) (up : sI.heap.UpToSlots h3) :
    ∀ {hds : List ExceptHandler} {l : List (Value × Option Nat × Suite)}, HdsA X hds l → wAny X.K out D l cls d σ1 H1 → wpAny (model X.prog X.w) X.A (handleBy (.ref a) X.env hds) (SP X pins D) X.xe { s1 with heap := h3 } := by
  have okX := J.ok
  have landed : ∀ {h : Heap}, HandSPX.FlyingZ B (X.env :: X.outer) a (Zc cls d) h → sI.heap.UpToSlots h → Inv X pins σ1 H1 { s1 with heap := h } := fun f u => J.landed (s' := { s1 with heap := _ }) nb f.1 u os ag
  have J3 := landed fl up
  obtain ⟨oe3, vs3, at3, z3, dt3⟩ := fl.there
  have notAFrame : a ∉ frs (X.env :: X.outer) := fun m => by
    obtain ⟨_, o, e, bad⟩ := fl.2.2.1.mem m
    cases at3.symm.trans e
    exact bad _ dt3
  have offLocals : a ≠ X.env.locals := fun z => notAFrame (List.mem_filterMap.mpr ⟨X.env, List.mem_cons_self, by rw [fr, z]⟩)
  have offFs : a ∉ X.fs := fun m => by
    obtain ⟨e, me, ee⟩ := List.mem_filterMap.mp m
    exact notAFrame (List.mem_filterMap.mpr ⟨e, List.mem_cons_of_mem _ me, ee⟩)
  have inSuite := J3.suite at3 dt3 na offLocals offFs
  have clsOf : PySem.W.Looks (model X.prog X.w) h3 (typeOf (.ref a)) cls := fun _ _ _ _ k q => wpAny_typeOf_ref (k _ _ at3) (by rw [z3.1]; exact q)
  -- the clause's name is looked up
  have name : ∀ {x : Str} {c : Value} {p : Pos} {Q E : Value → Shared → Prop}, Names X x c → Q c { s1 with heap := h3 } → wpAny (model X.prog X.w) (X.A.mark (some (.ref a))) (eval (.Name x p) X.env) Q E { s1 with heap := h3 } := by
    rintro x c p Q E ⟨gl, db, m | ⟨m, v, nn⟩⟩ q
    · exact ld_glob (X := X.suite a ((a, oe3) :: (X.pn ++ pins))) inSuite gl m q db
    · exact ld_blt (X := X.suite a ((a, oe3) :: (X.pn ++ pins))) inSuite gl m v q nn db
  intro hds l hk
  induction hk with
  | none =>
    intro wish
    refine wpAny_handleBy_nil ?_
    obtain ⟨_, _, _, oe, vs, T, oT, ts, e1, _, e2, e3, _⟩ := id fl
    have goes : wpAny (model X.prog X.w) X.A (setFlight (.ref a) X.env.frame) (fun _ s4 => wpAny (model X.prog X.w) X.A (throw (.ref a) : Sem Flow) (SP X pins D) X.xe s4) X.xe { s1 with heap := h3 } := by
      rw [fr]
      refine HandSPX.setFlight_upZ fl ?_
      intro h4 held up4
      refine wpAny_throw (tk _ _ ⟨a, B, sI, pins, σ1, H1, cls, d, rfl, J, nb, up.trans up4, .inr (.inr ?_), na, os, ag, wish⟩)
      rw [stk]
      exact held
    unfold PySem.passOn
    refine wpAny_bind (wpAny_field e1 e2 e3 ?_)
    rw [if_neg (by simp : ¬ ((Value.ref T == Value.none) = true))]
    first
      | exact wpAny_bind goes
      | exact wpAny_bind (wpAny_pure (wpAny_bind goes))
  | @bare x c ts s0 more p q hds2 l2 nm su r ih =>
    rintro ⟨b, eb, yes, no⟩
    refine wpAny_handleBy_cons (codeAny_handlers_test (name nm ((PySem.W.exm_one (M := model X.prog X.w) J3.kIn clsOf eb).here ?_))) nofun
    match b, eb, yes, no with
    | false, _, _, no => exact ih (no rfl)
    | true, _, yes, _ =>
      refine codeAny_handlers_suite (HandSPX.lands_againZ fl ?_)
      intro h4 fl4 up4
      obtain ⟨oe4, vs4, at4, z4, dt4⟩ := fl4.there
      have S4 := (landed fl4 (up.trans up4)).suite at4 dt4 na offLocals offFs
      have ran := (su a oe4 cls d (X.pn ++ pins) z4 ⟨_, dt4⟩).run [] _ _ H1 _ S4 (yes rfl a na)
      refine wpAny_mono ran ?_ (fun _ _ z => z.elim)
      intro way s6 out6
      match way, out6 with
      | .next, ⟨_, _, S6, q6⟩ => exact ⟨_, _, S6.unsuite okX, q6⟩
      | .brk, ⟨_, _, S6, q6⟩ => exact ⟨_, _, S6.unsuite okX, q6⟩
      | .cont, ⟨_, _, S6, q6⟩ => exact ⟨_, _, S6.unsuite okX, q6⟩
      | .ret u, ⟨_, _, _, S6, r6, q6⟩ => exact ⟨_, _, _, S6.unsuite okX, r6, q6⟩
  | @named x n i c ts s0 more p q hds2 l2 nm at_ loc su r ih =>
    rintro ⟨b, eb, yes, no⟩
    refine wpAny_handleBy_cons (codeAny_handlers_test (name nm ((PySem.W.exm_one (M := model X.prog X.w) J3.kIn clsOf eb).here ?_))) nofun
    match b, eb, yes, no with
    | false, _, _, no => exact ih (no rfl)
    | true, _, yes, _ =>
      refine codeAny_handlers_suite_as (HandSPX.lands_againZ fl ?_)
      intro h4 fl4 up4
      obtain ⟨oe4, vs4, at4, z4, dt4⟩ := fl4.there
      have S4 := (landed fl4 (up.trans up4)).suite at4 dt4 na offLocals offFs
      refine store_ok (X := X.suite a ((a, oe4) :: (X.pn ++ pins))) (v := .ref a) S4 nd at_ (.inl loc) rfl ?_ (.inr loc)
      intro s5 S5
      have ran := (su a oe4 cls d (X.pn ++ pins) z4 ⟨_, dt4⟩).run [] s5 _ H1 _ S5 (yes rfl a na)
      refine wpAny_mono ran ?_ (fun _ _ z => z.elim)
      intro way s6 out6
      have goesOut : ∀ {σ6 : L2.St} {H6 : Hp} {Q : Shared → Prop}, Inv (X.suite a ((a, oe4) :: (X.pn ++ pins))) [] σ6 H6 s6 → (∀ s7, Inv X pins (σ6.set i none) H6 s7 → Q s7) →
          wpAny (model X.prog X.w) X.A (do bindName X.env n .none; unbindBehindTheSuite X.env n q) (fun _ s7 => Q s7) X.xe s6 := fun S6 w => gone_ok (S6.unsuite okX) nd at_ loc w
      match way, out6 with
      | .next, ⟨_, _, S6, q6⟩ => exact goesOut S6 fun _ J7 => ⟨_, _, J7, q6⟩
      | .brk, ⟨_, _, S6, q6⟩ => exact goesOut S6 fun _ J7 => ⟨_, _, J7, q6⟩
      | .cont, ⟨_, _, S6, q6⟩ => exact goesOut S6 fun _ J7 => ⟨_, _, J7, q6⟩
      | .ret u, ⟨_, _, _, S6, r6, q6⟩ => exact goesOut S6 fun _ J7 => ⟨_, _, _, J7, r6, q6⟩
theorem ps_tryA (stk : X.stack = X.env :: X.outer) (fr : X.env.frame = some X.env.locals) (nd : X.N.Nodup) (tk : Takes X out)
    (hb : ∀ (W : WX) (pn : List (Addr × Obj)) (xe : Value → Shared → Prop), Takes (X.tr pn xe) W → PSs (X.tr pn xe) body (tb W)) (hh : HdsA X (h0 :: hds) l) :
    PS X (.Try body (h0 :: hds) [] [] pos) (fun D σ H => tb (fun cls d σ1 H1 => σ1.length = X.N.length → wAny X.K out D l cls d σ1 H1) D σ H) := by
  constructor
  intro pins s σ H D I want
  have okX := I.ok
  have frs_ : X.A.frames = some (X.env :: X.outer) := okX.frames.trans (congrArg some stk)
  refine wpAny_Try_except ?_
  have go := fun xe tk' => (hb (fun cls d σ1 H1 => σ1.length = X.N.length → wAny X.K out D l cls d σ1 H1) (X.pn ++ pins) xe tk').run [] s σ H D (I.toTry xe) want
  refine wpAny_mono (go (fun e s1 => wpAny (model X.prog X.w) X.A (noteFrame e X.env) (fun _ s2 => wpAny (model X.prog X.w) X.A (setFlight e none) (fun _ s3 => wpAny (model X.prog X.w) X.A (handleBy e X.env (h0 :: hds)) (SP X pins D) X.xe s3) X.xe s2) X.xe s1) ?_) ?_ (fun _ _ z => z)
  · rintro u s1 ⟨a, B, sI, pins1, σ1, H1, cls, d, rfl, J1, nb, up, sky, na, os, ag, wish⟩
    have J : Inv X pins σ1 H1 sI := J1.ofTry okX
    have sky1 : Sky B (X.env :: X.outer) a (Zc cls d) X.env.locals s1.heap := by rw [← stk]; exact sky
    refine Sky.land Zc.steady frs_ fr sky1 ?_
    intro h3 fl up3
    exact clauses (pins1 := pins1) frs_ fr stk nd tk J nb na os ag fl (up.trans up3) hh (wish J.len)
  · intro way s1 out1
    match way, out1 with
    | .next, ⟨_, _, J, q⟩ => exact wpAny_execs_nil ⟨_, _, J.ofTry okX, q⟩
    | .brk, ⟨_, _, J, q⟩ => exact ⟨_, _, J.ofTry okX, q⟩
    | .cont, ⟨_, _, J, q⟩ => exact ⟨_, _, J.ofTry okX, q⟩
    | .ret u, ⟨_, _, _, J, r, q⟩ => exact ⟨_, _, _, J.ofTry okX, r, q⟩
end
/-! ### raising an own exception without arguments -/
section
variable {X : Cx} {C : Addr} {bmB : List Value} {B newId initId : String}
theorem pmk_own0 {x : Str} {p pos : Pos} (F : ExcBaseFacts B newId initId bmB) (q : PySem.W.excIn X.K C bmB newId = true) (gC : X.mg x = some (.ref C)) (kC : PySem.W.keepIn X.K (.ref C) = true) (r : Raises X (.ref C)) (hg : Gl X x)
    (hdb : (x == ("__debug__" : Str)) = false := by decide) : PMk X (.Call (.Name x p) [] [] pos) (fun _ H Q => Q (.ref C) none H) := by
  intro pins s σ H Q I want
  refine wpAny_Call_Name_kw (ld_glob I hg gC ?_ hdb)
  refine PySem.W.callWith_K0 I.kIn kC ?_
  obtain ⟨bm, N, nm, qn, bs, hdct, sn, sub, ab, col, dd, k0, k1, k2, k3, k5, mN, there, names, noInit, tail⟩ := exc_obj I.kIn q
  obtain ⟨hp, g, dr, tk, os⟩ := s
  refine wpAny_call_exc_subT F tail there names noInit ?_ (by show 0 ≤ sizeLine; decide)
  intro h1 e made
  exact mk_of I made r want (I.hok.gone made.new)
end
/-! ### defs that may raise -/
structure CfX (P : Program) (w : World) (K : PySem.W.Frag) (mg : Str → Option Value) (base : Heap) (k : Nat) (x : Str) (sp : Sp) : Prop where
  ex : ∃ (f : Addr) (fd : FuncData) (ps : List Str), FnOk P w K mg base (L2.CX P w) k f fd ps sp ∧ mg x = some (.ref f) ∧ PySem.W.keepIn K (.ref f) = true ∧ Binds K fd ps []
section
variable {P : Program} {w : World} {K : PySem.W.Frag} {mg : Str → Option Value} {base : Heap} {k : Nat} {x : Str} {sp : Sp} {st : Stmt}
theorem At.cfx {ps : List Str} (A : At K mg x st) (ok : ∀ (f : Addr) (fd : FuncData), Fun K x x st f fd → FnOk P w K mg base (L2.CX P w) k f fd ps sp)
    (bd : ∀ (f : Addr) (fd : FuncData), Fun K x x st f fd → Binds K fd ps []) : CfX P w K mg base k x sp := by
  obtain ⟨f, fd, F, m⟩ := A.ex
  exact ⟨f, fd, ps, ok f fd F, m, F.kp, bd f fd F⟩
end
section
variable {X : Cx} {k j : Nat} {x : Str} {sp : Sp} {p pos : Pos} {e : Expr} {es : List Expr} {t : TA} {E : XK} {W : WX}
theorem pe_fx (c : CfX X.prog X.w X.K X.mg X.base k x sp) (hr : Room j X.A) (hk : k ≤ j) (hx : Gl X x) (tk : Takes X W) (hW : ∀ cls d σ H, E cls d H → W cls d σ H) (ha : PA X (e :: es) t)
    (hdb : (x == ("__debug__" : Str)) = false := by decide) (he : starEach (e :: es) X.env = (false, eval e X.env) :: starEach es X.env := by rfl)
    (hpl : (backTo pos (starEach es X.env)).any (·.1) = false := by rfl) : PE X (.Call (.Name x p) (e :: es) [] pos) (tCall sp [] E t) := by
  obtain ⟨f, fd, ps, F, hm, kp, bd⟩ := c.ex
  exact pe_call F (hr.mono hk) hx hm kp bd .nil (passes_call tk hW) ha hdb he hpl
/-- a call with what is let out told by the slots where it stands -/
theorem pe_fxS (c : CfX X.prog X.w X.K X.mg X.base k x sp) (hr : Room j X.A) (hk : k ≤ j) (hx : Gl X x) (tk : Takes X W) (ha : PA X (e :: es) t)
    (hdb : (x == ("__debug__" : Str)) = false := by decide) (he : starEach (e :: es) X.env = (false, eval e X.env) :: starEach es X.env := by rfl)
    (hpl : (backTo pos (starEach es X.env)).any (·.1) = false := by rfl) : PE X (.Call (.Name x p) (e :: es) [] pos) (tCallS sp (WE W) t) := by
  obtain ⟨f, fd, ps, F, hm, kp, bd⟩ := c.ex
  exact pe_callS F (hr.mono hk) hx hm kp bd (fun σ => passAt tk σ) ha hdb he hpl
end
end Rt
namespace Rt
open PySem PySem.Spec L2 LamX
open PyProof.Rows hiding St
/-! ### the law's own call, with tables of code objects -/
/-- x's def holds lambdas: its code object at c, the table at P -/
structure LamT (K : PySem.W.Frag) (mg : Str → Option Value) (x : Str) (c P : Addr) : Prop where
  ex : ∃ (f : Addr) (o oc : Obj) (fd : FuncData) (vs : Array Value), mg x = some (.ref f) ∧ K.lookup f = some o ∧ o.data = .func fd ∧ fd.code = .ref c ∧ K.lookup c = some oc ∧ oc.data = .fields vs ∧ vs[11]? = some (.ref P)
  out : K.lookup P = none
/-- the tables, and nothing else but the script -/
structure BareT (H : Hp) (K : PySem.W.Frag) (a : Addr) (ps : List Addr) : Prop where
  only : ∀ b, H b = none ∨ b ∈ ps ∨ ∃ o xs, H b = some (.frz o (.lst xs))
  tbl : ∀ b, b ∈ ps → H b = some (.tbl #[])
  here : ∀ b, H b ≠ none → b = a ∨ b ∈ ps
  notK : H a ≠ none → K.lookup a = none
/-- what the head says of a def's table -/
structure HeadT (h : Heap) (K : PySem.W.Frag) (c P : Addr) : Prop where
  hd : PySem.W.CodeHd h c P
  nil : h.get? P = some { cls := .none, data := .fields #[] }
  out : K.lookup P = none
section
variable {P : Program} {w : World} {K : PySem.W.Frag} {mg mb : Str → Option Value} {k : Nat} {fa a : Addr} {fd : FuncData} {x : Str} {sp : Sp} {s₁ : Shared} {vs : List Value} {ns : List Int} {cs : List (Addr × Addr)}
theorem bare_callT {H : Hp} (B : BareT H K a (cs.map (·.2))) (ok : HOk P w H s₁.heap) (KX : K.In s₁.heap) (hns : s₁.heap.Ns mainGlobals mg) (hb : s₁.heap.Ns builtinsNs mb) (hbb : ∀ x : Str, x ≠ "__name__" → mb x = bootBuiltins x)
    (lim : s₁.heap.NoLimit) (gens : s₁.gens = #[]) (heads : ∀ p ∈ cs, HeadT s₁.heap K p.1 p.2)
    (bmain : ∃ (bm : Addr) (ob : Obj), mg "__builtins__" = some (.ref bm) ∧ bm ≠ builtinsNs ∧ s₁.heap.get? bm = some ob ∧ ob.cls = .type "module" ∧ ob.dict = some builtinsNs ∧ ob.data = .plain)
    (ha : s₁.heap.get? a = some { cls := .type "list", data := .seq vs.toArray }) (room : Room k callerA)
    (F : ∀ base : Heap, K.In base → base.Ns mainGlobals mg → (∀ p ∈ cs, TabB base mg p.1 p.2) → FnG P w K mg base k fa fd [x] sp) (bind : ∀ (s : Shared) (u : Value), BindsTo s fd ⟨[u], []⟩ [(x, u)])
    (want : sp [.ref a] H (fun v _ => v = .bl true) E0) : codeAny (model P w) callerA (.call (.ref fa) ⟨[.ref a], []⟩) (isTrue1 s₁) s₁ := by
  have tblAt : ∀ b, b ∈ cs.map (·.2) → s₁.heap.get? b = some { cls := .none, data := .fields #[] } := by
    intro b m
    obtain ⟨p, mp, rfl⟩ := List.mem_map.mp m
    exact (heads p mp).nil
  -- what is neither a list nor an empty record is untracked
  have free : ∀ {b : Addr} {o : Obj}, s₁.heap.get? b = some o → (∀ us n, o.data ≠ .seq us n) → o.data ≠ .fields #[] → H b = none := by
    intro b o e n1 n2
    by_cases z : H b = none
    · exact z
    · exfalso
      rcases B.here b z with y | y
      · subst y
        cases ha.symm.trans e
        exact n1 _ _ rfl
      · cases (tblAt b y).symm.trans e
        exact n2 rfl
  have freeD : ∀ {b : Addr} {o : Obj} {es : Array DictEntry} {ep : Nat}, s₁.heap.get? b = some o → o.data = .dict es ep → H b = none := fun e d =>
    free e (fun _ _ z => nomatch d.symm.trans z) (fun z => nomatch d.symm.trans z)
  have freeP : ∀ {b : Addr} {o : Obj}, s₁.heap.get? b = some o → o.data = .plain → H b = none := fun e d =>
    free e (fun _ _ z => nomatch d.symm.trans z) (fun z => nomatch d.symm.trans z)
  have freeF : ∀ {b : Addr} {o : Obj} {us : Array Value} {v : Value}, s₁.heap.get? b = some o → o.data = .fields us → us[11]? = some v → H b = none := fun e d g => by
    refine free e (fun _ _ z => nomatch d.symm.trans z) (fun z => ?_)
    cases d.symm.trans z
    simp at g
  have freeK : ∀ {b : Addr} {o : Obj}, K.lookup b = some o → H b = none := by
    intro b o e
    by_cases z : H b = none
    · exact z
    · exfalso
      rcases B.here b z with y | y
      · subst y
        exact nomatch (B.notK z).symm.trans e
      · obtain ⟨p, mp, rfl⟩ := List.mem_map.mp y
        exact nomatch (heads p mp).out.symm.trans e
  have names : ∀ {b : Addr} {m : Str → Option Value}, s₁.heap.Ns b m → (hidT s₁.heap H).Ns b m := by
    rintro b m ⟨o, es, ep, e, d, r⟩
    exact ⟨o, es, ep, hidT_get e (freeD e d), d, r⟩
  have inBase : K.In (hidT s₁.heap H) := fun b o e => hidT_get (KX b o e) (freeK e)
  have noLim : (hidT s₁.heap H).NoLimit := by
    obtain ⟨mc, z1, z2⟩ := lim
    exact ⟨mc, names z1, z2⟩
  have notTable : ∀ {b : Addr} {o : Obj}, s₁.heap.get? b = some o → (∃ es ep, o.data = .dict es ep) ∨ o.data = .plain → ∀ p ∈ cs, b ≠ p.2 := by
    rintro b o e d p mp rfl
    cases (heads p mp).nil.symm.trans e
    rcases d with ⟨_, _, d⟩ | d <;> cases d
  have tables : ∀ p ∈ cs, TabB (hidT s₁.heap H) mg p.1 p.2 := by
    intro p mp
    obtain ⟨oG, esG, epG, eG, dG, rG⟩ := id hns
    constructor
    · obtain ⟨o, us, file, tf, flags, tg, inF, text, tt, e1, e2, e3, e4, rest⟩ := (heads p mp).hd
      exact ⟨o, us, file, tf, flags, tg, inF, text, tt, hidT_get e1 (freeF e1 e3 e4), e2, e3, e4, rest⟩
    · obtain ⟨bm, ob, z1, z2, z3, z4, z5, z6⟩ := bmain
      refine ⟨bm, ob, z1, z2, ?_, notTable z3 (.inr z6) p mp, hidT_get z3 (freeP z3 z6), z4, z5, z6⟩
      intro y
      rw [y] at z3
      cases eG.symm.trans z3
      cases dG.symm.trans z6
    · exact notTable eG (.inl ⟨_, _, dG⟩) p mp
  have e0 : Env0 P w K mg (hidT s₁.heap H) callerA [] s₁ H := by
    constructor
    · rfl
    · exact ⟨inBase, names hns, ⟨mb, names hb, hbb⟩, noLim⟩
    · exact fun b o e => of_hidT e
    · exact Nat.le_of_eq (hidT_size _ _)
    · exact True.intro
    · exact fun b hb => nomatch (show b ∈ ([] : List Addr) from hb)
    · exact ok
    · exact .of_eq gens
  have run := (F _ inBase (names hns) tables).go callerA rfl room [] s₁ H ⟨[.ref a], []⟩ [.ref a] [.ref a] _ _ e0 (bind s₁ (.ref a)) (.cons rfl .nil) want
  refine codeAny_mono run ?_
  intro r s2 out
  match r, out with
  | .error _, z => exact False.elim z
  | .ok .next, z => exact False.elim z
  | .ok .brk, z => exact False.elim z
  | .ok .cont, z => exact False.elim z
  | .ok (.ret u), ⟨v, H2, os, bare, un, ok2, ru, q⟩ =>
    obtain rfl : v = .bl true := q
    obtain rfl : u = Value.bool true := ru
    have same : ∀ b o, b ∉ cs.map (·.2) → s₁.heap.get? b = some o → s2.heap.get? b = some o := by
      intro b o nt e
      by_cases z : H b = none
      · exact un.keep b o e z (fun y => nomatch (show b ∈ ([] : List Addr) from y)) (fun y => nomatch (show b ∈ ([] : List Addr) from y))
      · rcases B.only b with y | y | ⟨ob, xs, y⟩
        · exact absurd y z
        · exact absurd y nt
        · have e1 := (ok b _ y).1
          have e2 := (ok2 b _ (un.frzs b ob _ y)).1
          cases e1.symm.trans e
          exact e2
    have grown : ∀ p ∈ cs, ∃ more : Array Value, s2.heap.get? p.2 = some { cls := .none, data := .fields more } := by
      intro p mp
      obtain ⟨more, z⟩ := un.tbls p.2 #[] (B.tbl _ (List.mem_map.mpr ⟨p, mp, rfl⟩))
      exact ⟨_, ok2 p.2 _ z⟩
    refine ⟨rfl, ⟨?_, ?_⟩, os, bare⟩
    · intro b o e
      by_cases m : b ∈ cs.map (·.2)
      · obtain ⟨p, mp, rfl⟩ := List.mem_map.mp m
        obtain ⟨more, z⟩ := grown p mp
        have T := heads p mp
        cases T.nil.symm.trans e
        refine .inr (.inl ⟨(T.hd.tab T.nil).isCodeTable, rfl, #[], more, rfl, ?_⟩)
        rw [Array.empty_append]
        exact z
      · exact .inl (same b o m e)
    · intro b o e
      by_cases m : b ∈ cs.map (·.2)
      · obtain ⟨p, mp, rfl⟩ := List.mem_map.mp m
        obtain ⟨more, z⟩ := grown p mp
        exact ⟨_, z⟩
      · exact ⟨o, same b o m e⟩
theorem law_gT (KX : K.In s₁.heap) (hns : s₁.heap.Ns mainGlobals mg) (hb : s₁.heap.Ns builtinsNs mb) (hbb : ∀ x : Str, x ≠ "__name__" → mb x = bootBuiltins x) (lim : s₁.heap.NoLimit) (gens : s₁.gens = #[]) (heads : ∀ p ∈ cs, HeadT s₁.heap K p.1 p.2)
    (bmain : ∃ (bm : Addr) (ob : Obj), mg "__builtins__" = some (.ref bm) ∧ bm ≠ builtinsNs ∧ s₁.heap.get? bm = some ob ∧ ob.cls = .type "module" ∧ ob.dict = some builtinsNs ∧ ob.data = .plain)
    (ha : s₁.heap.get? a = some { cls := .type "list", data := .seq vs.toArray }) (nums : IntsAre vs ns) (fit : ns.length ≤ sizeLine) (room : Room k callerA)
    (F : ∀ base : Heap, K.In base → base.Ns mainGlobals mg → (∀ p ∈ cs, TabB base mg p.1 p.2) → FnG P w K mg base k fa fd [x] sp) (bind : ∀ (s : Shared) (u : Value), BindsTo s fd ⟨[u], []⟩ [(x, u)])
    (want : ∀ H : Hp, (∀ p ∈ cs, H p.2 = some (.tbl #[])) → SqL K H a (ns.map V.int) → sp [.ref a] H (fun v _ => v = .bl true) E0) :
    codeAny (model P w) callerA (.call (.ref fa) ⟨[.ref a], []⟩) (isTrue1 s₁) s₁ := by
  have rv := vals_ints nums
  have lv := nums.length
  have inT : ∀ p ∈ cs, p.2 ∈ cs.map (·.2) := fun p mp => List.mem_map.mpr ⟨p, mp, rfl⟩
  have tblAt : ∀ b, b ∈ cs.map (·.2) → s₁.heap.get? b = some { cls := .none, data := .fields #[] } := by
    intro b m
    obtain ⟨p, mp, rfl⟩ := List.mem_map.mp m
    exact (heads p mp).nil
  have aNot : a ∉ cs.map (·.2) := fun m => nomatch ha.symm.trans (tblAt a m)
  rcases hk : K.lookup a with _ | o
  · let H : Hp := fun b => if b = a then some (.frz { cls := .type "list", data := .seq vs.toArray } (.lst (ns.map V.int))) else if b ∈ cs.map (·.2) then some (.tbl #[]) else none
    have Ha : H a = some (.frz { cls := .type "list", data := .seq vs.toArray } (.lst (ns.map V.int))) := if_pos rfl
    have Ht : ∀ b, b ∈ cs.map (·.2) → H b = some (.tbl #[]) := fun b m => (if_neg (fun (z : b = a) => aNot (by rw [← z]; exact m))).trans (if_pos m)
    have Hn : ∀ b, b ≠ a → b ∉ cs.map (·.2) → H b = none := fun b z y => (if_neg z).trans (if_neg y)
    have ok : HOk P w H s₁.heap := fun b u e => by
      by_cases y : b = a
      · subst y
        cases Ha.symm.trans e
        refine ⟨ha, ?_, vs, _, rv, ha⟩
        rw [List.length_map]
        exact fit
      · by_cases m : b ∈ cs.map (·.2)
        · cases (Ht b m).symm.trans e
          exact tblAt b m
        · exact nomatch (Hn b y m).symm.trans e
    refine bare_callT (H := H) ⟨fun b => ?_, Ht, fun b z => ?_, fun _ => hk⟩ ok KX hns hb hbb lim gens heads bmain ha room F bind (want H (fun p mp => Ht _ (inT p mp)) (.inl (.inr ⟨_, Ha⟩)))
    · by_cases z : b = a
      · subst z
        exact .inr (.inr ⟨_, _, Ha⟩)
      · by_cases m : b ∈ cs.map (·.2)
        · exact .inr (.inl m)
        · exact .inl (Hn b z m)
    · by_cases y : b = a
      · exact .inl y
      · by_cases m : b ∈ cs.map (·.2)
        · exact .inr m
        · exact absurd (Hn b y m) z
  · have e := KX a o hk
    cases ha.symm.trans e
    let H : Hp := fun b => if b ∈ cs.map (·.2) then some (.tbl #[]) else none
    have Ht : ∀ b, b ∈ cs.map (·.2) → H b = some (.tbl #[]) := fun b m => if_pos m
    have Hn : ∀ b, b ∉ cs.map (·.2) → H b = none := fun b m => if_neg m
    have ok : HOk P w H s₁.heap := fun b u e => by
      by_cases m : b ∈ cs.map (·.2)
      · cases (Ht b m).symm.trans e
        exact tblAt b m
      · exact nomatch (Hn b m).symm.trans e
    refine bare_callT (H := H) ⟨fun b => ?_, Ht, fun b z => ?_, fun z => absurd (Hn a aNot) z⟩ ok KX hns hb hbb lim gens heads bmain ha room F bind (want H (fun p mp => Ht _ (inT p mp)) (.inr ⟨_, vs.toArray, _, hk, rfl, rfl, rfl, ?_, by simpa using rv⟩))
    · by_cases m : b ∈ cs.map (·.2)
      · exact .inr (.inl m)
      · exact .inl (Hn b m)
    · by_cases m : b ∈ cs.map (·.2)
      · exact .inr m
      · exact absurd (Hn b m) z
    · rw [List.size_toArray, lv]
      exact fit
theorem walk_gT {l : PySem.W.OpenLaw} {n k : Nat} {q : Program} {loose : List Str} {XP : (Str → Option Value) → Heap → Prop} {YP : World → Heap → Prop} {d : DefRec} {K : Params → PySem.W.Frag} {x : Str}
    (hn : l.most = some n) (le : n ≤ sizeLine) (noDf : d.params.defaults = []) (room : Room k callerA) (hY : ∀ (w : World) (h : Heap), YP w h → (K w.params).In h)
    (F : ∀ (w : World) (mg : Str → Option Value) (fa : Addr) (h : Heap), (K w.params).In h → h.Ns mainGlobals mg → mg d.name = some (.ref fa) →
      ∃ (fd : FuncData) (ts : List (Str × Addr × Addr)) (sp : Sp), (∀ t ∈ ts, LamT (K w.params) mg t.1 t.2.1 t.2.2 ∧ ((recsOf q).any fun e => e.name == t.1) = true) ∧ (∀ (s : Shared) (u : Value), BindsTo s fd ⟨[u], []⟩ [(x, u)]) ∧
        (∀ (H : Hp) (a : Addr) (ns : List Int), ns.length ≤ n → (∀ t ∈ ts, H t.2.2 = some (.tbl #[])) → SqL (K w.params) H a (ns.map V.int) → sp [.ref a] H (fun v _ => v = .bl true) E0) ∧
        ∀ base : Heap, (K w.params).In base → base.Ns mainGlobals mg → (∀ t ∈ ts, TabB base mg t.2.1 t.2.2) → FnG l.prog w (K w.params) mg base k fa fd [x] sp) :
    PySem.W.WalkO q loose XP YP l.row.toRowW d [] (fun f vs => PySem.call f vs) := by
  refine Att.attach_call hn noDf ?_
  intro w s₀ s₁ mg mb fa o pm cd doc a vs ns G Y ho hd hcd hmg hobj nums few gens
  have KX := hY w _ Y
  obtain ⟨fd, ts, sp, lams, bind, want, each⟩ := F w mg fa _ KX G.T.g hmg
  have heads : ∀ p ∈ ts.map (·.2), HeadT s₁.heap (K w.params) p.1 p.2 := by
    intro p mp
    obtain ⟨t, mt, rfl⟩ := List.mem_map.mp mp
    obtain ⟨L, any⟩ := lams t mt
    obtain ⟨f, o1, oc, fd1, us, g1, g2, g3, g4, g5, g6, g7⟩ := L.ex
    obtain ⟨dL, md, en⟩ := List.any_eq_true.mp any
    have en2 : dL.name = t.1 := beq_iff_eq.mp en
    obtain ⟨a1, o2, fd2, c2, P2, h1, h2, h3, h4, h5, h6⟩ := G.T.tab dL md
    rw [en2, g1] at h1
    cases h1
    cases (KX _ _ g2).symm.trans h2
    cases g3.symm.trans h3
    cases g4.symm.trans h4
    have hc := PySem.W.CodeHd.of h5 h6
    obtain ⟨⟨o3, us3, e1, e2, e3, e4⟩, nil⟩ := h6
    cases (KX _ _ g5).symm.trans e1
    cases g6.symm.trans e3
    cases g7.symm.trans e4
    exact ⟨hc, nil, L.out⟩
  refine law_gT (sp := sp) (cs := ts.map (·.2)) KX G.T.g G.T.b G.T.builtins G.T.nolimit gens heads G.T.bmain hobj nums (Nat.le_trans few le) room ?_ bind ?_
  · exact fun base z1 z2 z3 => each base z1 z2 fun t mt => z3 t.2 (List.mem_map.mpr ⟨t, mt, rfl⟩)
  · exact fun H z1 z2 => want H a ns few (fun t mt => z1 t.2 (List.mem_map.mpr ⟨t, mt, rfl⟩)) z2
end
/-! ### heaps in which tables may grow -/
/-- all but the source, its list and the tables stays -/
def KeepN (d c : Addr) (H H' : Hp) : Prop := ∀ b o, H b = some o → b ≠ d → b ≠ c → (∀ ps, o ≠ .tbl ps) → H' b = some o
theorem KeepN.trans {d c : Addr} {H H1 H2 : Hp} (a : KeepN d c H H1) (b : KeepN d c H1 H2) : KeepN d c H H2 := fun x o e n1 n2 n3 => b x o (a x o e n1 n2 n3) n1 n2 n3
theorem KeepN.of_ext {d c : Addr} {H H' : Hp} (a : ExtN H H') : KeepN d c H H' := fun x o e _ _ n => a x o e n
theorem KeepN.refl {d c : Addr} {H : Hp} : KeepN d c H H := fun _ _ e _ _ _ => e
theorem ExtN.of_same {H H' : Hp} (s : Same H H') : ExtN H H' := fun b o e _ => s b o e
theorem Tabs.same {T : List (Addr × Str)} {H H' : Hp} (t : Tabs T H) (s : Same H H') : Tabs T H' := t.ext s
end Rt
namespace Rt
open PySem PySem.Spec L2 LamX
open PyProof.Rows hiding St
/-! ### raising exceptions of one's own that keep what they are made with -/
abbrev veT : List Value := [.type "ValueError", .type "Exception", .type "BaseException", .type "object"]
abbrev leT : List Value := [.type "LookupError", .type "Exception", .type "BaseException", .type "object"]
/-- a class without an own __init__ over ValueError -/
structure Easy (K : PySem.W.Frag) (mg : Str → Option Value) (x : Str) (C : Addr) : Prop where
  m : mg x = some (.ref C)
  q : PySem.W.excIn K C veT "ValueError.__new__" = true
  kp : PySem.W.keepIn K (.ref C) = true
  cc : ExcC K C
  ty : PySem.W.typeIn K (.ref C) = some (.type "type")
/-- a class with an own __init__ that keeps one thing -/
structure Own (K : PySem.W.Frag) (mg : Str → Option Value) (x qual attr : Str) (st : Stmt) (bm : List Value) (newId : String) (C : Addr) : Prop where
  m : mg x = some (.ref C)
  M : ExM K C bm
  i : PySem.W.excInitIn K C bm newId = true
  ty : PySem.W.typeIn K (.ref C) = some (.type "type")
  no : PySem.W.findIn K (.ref C) attr = some none
  ex : ∃ (f : Addr) (fd : FuncData), PySem.W.findIn K (.ref C) "__init__" = some (some (.ref f)) ∧ PySem.W.typeIn K (.ref f) = some (.type "function") ∧ Fun K "__init__" qual st f fd
section
variable {K : PySem.W.Frag} {mg : Str → Option Value} {h : Heap} {x qual attr : Str} {C f : Addr}
theorem easy_mk (X : K.In h) (G : h.Ns mainGlobals mg) (a : PySem.W.nsIn K mainGlobals x = some (some (.ref C))) (kp : PySem.W.keepIn K (.ref C) = true) (cc : ExcC K C) (q : PySem.W.excIn K C veT "ValueError.__new__" = true) (ty : PySem.W.typeIn K (.ref C) = some (.type "type")) : Easy K mg x C := ⟨PySem.W.mg_of X G a, q, kp, cc, ty⟩
theorem own_mk {st : Stmt} {bm : List Value} {newId : String} {oc kV dc pm cd ct : Value} {od an : Option Addr} {sl : Array (Option Value)} (X : K.In h) (G : h.Ns mainGlobals mg) (a : PySem.W.nsIn K mainGlobals x = some (some (.ref C)))
    (over : PySem.W.excOver K C bm = true) (sa : PySem.W.findIn K (.ref C) "__setattr__" = some (some (.builtin "object.__setattr__"))) (cc : ExcC K C) (kp : PySem.W.keepIn K (.ref C) = true) (ty : PySem.W.typeIn K (.ref C) = some (.type "type"))
    (i : PySem.W.excInitIn K C bm newId = true) (fnd : PySem.W.findIn K (.ref C) "__init__" = some (some (.ref f))) (tf : PySem.W.typeIn K (.ref f) = some (.type "function")) (no : PySem.W.findIn K (.ref C) attr = some none)
    (l : K.lookup f = some ⟨oc, od, .func (PySem.W.fnOf "__init__" qual (defArgs st) (defBody st) (defScope st) .none kV dc pm an cd ct), sl⟩) (c : PySem.W.codeIn K cd qual = true) (k : PySem.W.keepIn K (.ref f) = true) : Own K mg x qual attr st bm newId C :=
  ⟨PySem.W.mg_of X G a, ⟨over, sa, cc, kp⟩, i, ty, no, ⟨f, _, fnd, tf, fun_mk l c k⟩⟩
end
section
variable {X : Cx} {e : Expr} {es : List Expr} {ta : TA} {p p' pos pos' : Pos} {B : String} {bmB : List Value}
/-- what is asked of a making of C(e, ..), C's __init__ keeping sp -/
def Mak (C : Addr) (sp : Sp) (vs : List V) (H1 : Hp) (Q : XK) : Prop := vs.length ≤ 1000 ∧ ∀ a, H1 a = none → sp (.ref a :: vs) (upd H1 a (exo a C none))
  (fun v H2 => v = .non ∧ ∃ (d : Addr) (fs : List (Str × V)), H2 a = some (exo a C (some d)) ∧ H2 d = some (exd d fs) ∧ H1 d = none ∧ Q (.ref C) (some d) (upd (del H2 a) d (.xd fs))) E0
theorem pmk_xm {R : List V → Hp → XK → Prop} {x : Str} {C fI : Addr} {k : Nat} {fd : FuncData} {ps : List Str} {sp : Sp} {newId initId : String} (F : ExcBaseFacts B newId initId bmB) (M : ExM X.K C bmB) (rs : Raises X (.ref C)) (ini : PySem.W.excInitIn X.K C bmB newId = true)
    (iC : PySem.W.findIn X.K (.ref C) "__init__" = some (some (.ref fI))) (tI : PySem.W.typeIn X.K (.ref fI) = some (.type "function")) (G : FnOk X.prog X.w X.K X.mg X.base CX0 k fI fd ps sp) (hr : Room (k + 1) X.A) (hb : Binds X.K fd ps [])
    (hg : Gl X x) (hm : X.mg x = some (.ref C)) (ha : PA X (e :: es) ta) (hR : ∀ vs H1 Q, R vs H1 Q → Mak C sp vs H1 Q) (hdb : (x == ("__debug__" : Str)) = false := by decide) (he : starEach (e :: es) X.env = (false, eval e X.env) :: starEach es X.env := by rfl)
    (hpl : (backTo pos (starEach es X.env)).any (·.1) = false := by rfl) : PMk X (.Call (.Name x p) (e :: es) [] pos) (fun σ H Q => ta σ H fun vs H1 => R vs H1 Q) := by
  intro pins s σ H Q I h
  refine wpAny_Call_Name_kw (ld_glob I hg hm ?_ hdb)
  refine PySem.W.callWith_K (h₀ := X.base) I.ok.mod.kin M.kp (thn (ha.run pos pins s σ H _ I h) ?_) he hpl
  rintro us s1 ⟨vs, H1, J, rv, qR⟩
  obtain ⟨few, q⟩ := hR _ _ _ qR
  refine ⟨J.kIn, ?_⟩
  show wpAny _ _ (call (.ref C) us) _ _ _
  obtain ⟨hp, g, dr, tk, os⟩ := s1
  obtain ⟨nm, N, qn, bs, bm, hdct, sn, sub, ab, col, dd, k0, k1, k2, k3, k5, hC, tail⟩ := PySem.W.excInit_of J.kIn ini
  have le : hp.objs.size ≤ hp.objs.size + 1 := Nat.le_succ _
  have hn : H1 (hp.objs.size + 1) = none := J.hok.fresh le
  have want := q (hp.objs.size + 1) hn
  have kept : ∀ b o, hp.get? b = some o → ((hp.push (PySem.W.kdv_tup us)).push (PySem.HandSPX.excO C hp.objs.size)).get? b = some o := fun b o z => Heap.get?_push_of_some _ (Heap.get?_push_of_some _ z)
  have got : ((hp.push (PySem.W.kdv_tup us)).push (PySem.HandSPX.excO C hp.objs.size)).get? (hp.objs.size + 1) = some (PySem.HandSPX.excO C hp.objs.size) := by heap_get
  have J2 : Inv X pins σ (upd H1 (hp.objs.size + 1) (exo (hp.objs.size + 1) C none)) ⟨(hp.push (PySem.W.kdv_tup us)).push (PySem.HandSPX.excO C hp.objs.size), g, dr, tk, os⟩ :=
    J.laid (t' := tk) kept le (exo_ok got)
  have r2 : Vals (V.ref (hp.objs.size + 1) :: vs) (Value.ref (hp.objs.size + 1) :: us) := .cons rfl rv
  have hl : (Value.ref (hp.objs.size + 1) :: us).length = ps.length := by
    rw [← r2.length]
    exact G.len _ _ _ _ want
  have hus : us.length ≤ sizeLine := by
    rw [← Paired.length rv, sizeLine_eq]
    omega
  have bt : BindsTo ⟨(hp.push (PySem.W.kdv_tup us)).push (PySem.HandSPX.excO C hp.objs.size), g, dr, tk, os⟩ fd ⟨Value.ref (hp.objs.size + 1) :: us, []⟩ (ps.zip (Value.ref (hp.objs.size + 1) :: us)) := by
    have z := hb _ (Value.ref (hp.objs.size + 1) :: us) J2.kIn (by simpa using hl)
    simpa using z
  refine wpAny_call (PySem.HandSPX.call_own F tail hC (PySem.W.looks_findIn J.kIn iC) (fun self => PySem.W.bind_fn J.kIn self tI) hus
    (codeAny_mono (G.run _ X.stack _ _ ⟨Value.ref (hp.objs.size + 1) :: us, []⟩ (Value.ref (hp.objs.size + 1) :: us) _ _ E0 (hr.make C us []) (J2.env0.make C us []) bt r2 want) ?_))
  intro r s2 out
  match r, out with
  | .error _, z => exact False.elim z
  | .ok .next, z => exact False.elim z
  | .ok .brk, z => exact False.elim z
  | .ok .cont, z => exact False.elim z
  | .ok (.ret u), ⟨v, H2, os2, bare2, un2, ok2, ru, hv, d, fs, ea, ed, nd, q2⟩ =>
    subst hv
    obtain ⟨h2, g2, d2, t2, os3⟩ := s2
    exact ⟨ru, mk_end rs J le kept un2 ok2 os2 bare2 ea ed nd q2⟩
/-- what an __init__ that keeps a tuple of its argument promises -/
def spIniT (C : Addr) (attr : Str) : Sp := fun vs H Q _ => ∃ (a p : Addr) (xs : List V), vs = [.ref a, .ref p] ∧ H a = some (exo a C none) ∧ (H p = some (.lst xs) ∨ H p = some (.tup xs)) ∧ xs.length ≤ 1000 ∧
  ∀ (d q : Addr) (H' : Hp), H d = none → d ≠ a → H' a = some (exo a C (some d)) → H' d = some (exd d [(attr, .ref q)]) → H' q = some (.tup xs) → (∀ b o, H b = some o → b ≠ a → H' b = some o) → Q .non H'
/-- what an __init__ that keeps its argument as it is promises -/
def spIniV (C : Addr) (attr : Str) : Sp := fun vs H Q _ => ∃ (a : Addr) (v : V), vs = [.ref a, v] ∧ H a = some (exo a C none) ∧
  ∀ (d : Addr) (H' : Hp), H d = none → d ≠ a → H' a = some (exo a C (some d)) → H' d = some (exd d [(attr, v)]) → (∀ b o, H b = some o → b ≠ a → H' b = some o) → Q .non H'
theorem raises_of {C : Addr} (cc : ExcC X.K C) (ty : PySem.W.typeIn X.K (.ref C) = some (.type "type")) : Raises X (.ref C) := raises_own cc.hs ty
/-- raise C(e), C keeping a tuple of it -/
def rRaT (C : Addr) (attr : Str) (vs : List V) (H1 : Hp) (Q : XK) : Prop := ∃ (p : Addr) (xs : List V), vs = [.ref p] ∧ (H1 p = some (.lst xs) ∨ H1 p = some (.tup xs)) ∧ xs.length ≤ 1000 ∧
  ∀ (d q : Addr) (H2 : Hp), H1 d = none → Same H1 H2 → H2 d = some (.xd [(attr, .ref q)]) → H2 q = some (.tup xs) → Q (.ref C) (some d) H2
def rRaV (C : Addr) (attr : Str) (vs : List V) (H1 : Hp) (Q : XK) : Prop := ∃ (v : V), vs = [v] ∧
  ∀ (d : Addr) (H2 : Hp), H1 d = none → Same H1 H2 → H2 d = some (.xd [(attr, v)]) → Q (.ref C) (some d) H2
theorem mak_T {C : Addr} {attr : Str} {vs : List V} {H1 : Hp} {Q : XK} (h : rRaT C attr vs H1 Q) : Mak C (spIniT C attr) vs H1 Q := by
  obtain ⟨q0, xs, rfl, at_, few, k⟩ := h
  refine ⟨(by show 1 ≤ 1000; decide), fun a na => ?_⟩
  have kp : ∀ b o, H1 b = some o → (upd H1 a (exo a C none)) b = some o := fun b o z => by rw [upd_ne (ne_of_none z na)]; exact z
  refine ⟨a, q0, xs, rfl, upd_same, at_.imp (kp _ _) (kp _ _), few, fun d q H2 nd da ea ed eq keep => ⟨rfl, d, _, ea, ed, ?_, ?_⟩⟩
  · rw [upd_ne da] at nd
    exact nd
  · have nd1 : H1 d = none := by
      rw [upd_ne da] at nd
      exact nd
    have qa : q ≠ a := ext_ne ea eq fun _ => nofun
    have qd : q ≠ d := ext_ne ed eq fun _ => nofun
    refine k d q _ nd1 (fun b o z => ?_) upd_same (by rw [upd_ne qd, del_ne qa]; exact eq)
    rw [upd_ne (ne_of_none z nd1), del_ne (ne_of_none z na)]
    exact keep b o (kp b o z) (ne_of_none z na)
theorem mak_V {C : Addr} {attr : Str} {vs : List V} {H1 : Hp} {Q : XK} (h : rRaV C attr vs H1 Q) : Mak C (spIniV C attr) vs H1 Q := by
  obtain ⟨v, rfl, k⟩ := h
  refine ⟨(by show 1 ≤ 1000; decide), fun a na => ?_⟩
  have kp : ∀ b o, H1 b = some o → (upd H1 a (exo a C none)) b = some o := fun b o z => by rw [upd_ne (ne_of_none z na)]; exact z
  refine ⟨a, v, rfl, upd_same, fun d H2 nd da ea ed keep => ⟨rfl, d, _, ea, ed, ?_, ?_⟩⟩
  · rw [upd_ne da] at nd
    exact nd
  · have nd1 : H1 d = none := by
      rw [upd_ne da] at nd
      exact nd
    refine k d _ nd1 (fun b o z => ?_) upd_same
    rw [upd_ne (ne_of_none z nd1), del_ne (ne_of_none z na)]
    exact keep b o (kp b o z) (ne_of_none z na)
def tRa (R : List V → Hp → XK → Prop) (W : WX) (ta : TA) : TS := fun _ σ H => ta σ H fun vs H1 => R vs H1 fun cls d H' => W cls d σ H'
theorem ps_raO {W : WX} {R : List V → Hp → XK → Prop} {sp : Sp} {ps : List Str} {x qual attr : Str} {st : Stmt} {newId initId : String} {C : Addr} (F : ExcBaseFacts B newId initId bmB) (O : Own X.K X.mg x qual attr st bmB newId C) (hc : X.calm = true) (tk : Takes X W)
    (ini : ∀ (f : Addr) (fd : FuncData), Fun X.K "__init__" qual st f fd → FnOk X.prog X.w X.K X.mg X.base CX0 1 f fd ps sp) (bd : ∀ (f : Addr) (fd : FuncData), Fun X.K "__init__" qual st f fd → Binds X.K fd ps [])
    {j : Nat} (hr : Room j X.A) (hk : 2 ≤ j) (hg : Gl X x) (ha : PA X (e :: es) ta) (hR : ∀ vs H1 Q, R vs H1 Q → Mak C sp vs H1 Q) (hdb : (x == ("__debug__" : Str)) = false := by decide) (he : starEach (e :: es) X.env = (false, eval e X.env) :: starEach es X.env := by rfl)
    (hpl : (backTo pos (starEach es X.env)).any (·.1) = false := by rfl) : PS X (.Raise (some (.Call (.Name x p) (e :: es) [] pos)) none pos') (tRa R W ta) := by
  obtain ⟨f, fd, fnd, tf, Fn⟩ := O.ex
  exact ps_raise (pos := pos') hc tk (pmk_xm (p := p) (pos := pos) F O.M (raises_of O.M.cc O.ty) O.i fnd tf (ini f fd Fn) (hr.mono hk) (bd f fd Fn) hg O.m ha hR hdb he hpl)
/-- raise C(), C without an own __init__ -/
theorem ps_raE {W : WX} {x : Str} {C : Addr} (O : Easy X.K X.mg x C) (hc : X.calm = true) (tk : Takes X W) (hg : Gl X x) (hdb : (x == ("__debug__" : Str)) = false := by decide) :
    PS X (.Raise (some (.Call (.Name x p) [] [] pos)) none pos') (fun _ σ H => W (.ref C) none σ H) :=
  ps_raise (pos := pos') hc tk (pmk_own0 (p := p) (pos := pos) PySem.F.excBase_ValueError O.q O.m O.kp (raises_of O.cc O.ty) hg hdb)
end
/-! ### makers that may raise -/
structure MkrX (P : Program) (w : World) (K : PySem.W.Frag) (mg : Str → Option Value) (base : Heap) (k : Nat) (C : Addr) (x : Str) (sp : Sp) : Prop where
  ex : ∃ (f : Addr) (fd : FuncData) (ps : List Str), L2.Mk K C f ∧ mg x = some (.ref C) ∧ FnOk P w K mg base (L2.CX P w) k f fd ps sp ∧ Binds K fd ps []
theorem MkAt.mkrx {P : Program} {w : World} {K : PySem.W.Frag} {mg : Str → Option Value} {base : Heap} {k : Nat} {C : Addr} {x qual : Str} {st : Stmt} {ps : List Str} {sp : Sp} (A : MkAt K mg x C qual st)
    (ok : ∀ (f : Addr) (fd : FuncData), Fun K "__init__" qual st f fd → FnOk P w K mg base (L2.CX P w) k f fd ps sp) (bd : ∀ (f : Addr) (fd : FuncData), Fun K "__init__" qual st f fd → Binds K fd ps []) : MkrX P w K mg base k C x sp := by
  obtain ⟨f, fd, h, n, F⟩ := A.ex
  exact ⟨f, fd, ps, h, n, ok f fd F, bd f fd F⟩
section
variable {X : Cx} {k j : Nat} {C : Addr} {x : Str} {sp : Sp} {p pos : Pos} {e : Expr} {es : List Expr} {t : TA} {W : WX} {E : XK}
theorem pe_mkrX (M : MkrX X.prog X.w X.K X.mg X.base k C x sp) (hr : Room j X.A) (hk : k + 1 ≤ j) (hg : Gl X x) (tk : Takes X W) (hW : ∀ cls d σ H, E cls d H → W cls d σ H) (ha : PA X (e :: es) t)
    (hdb : (x == ("__debug__" : Str)) = false := by decide) (he : starEach (e :: es) X.env = (false, eval e X.env) :: starEach es X.env := by rfl) (hpl : (backTo pos (starEach es X.env)).any (·.1) = false := by rfl) :
    PE X (.Call (.Name x p) (e :: es) [] pos) (tMake C sp [] E t) := by
  obtain ⟨f, fd, ps, mk, hm, F, b⟩ := M.ex
  exact pe_make mk F (hr.mono hk) hg hm b .nil (passes_call tk hW) ha hdb he hpl
end
end Rt
namespace Rt
open PySem PySem.Spec L2 LamX
open PyProof.Rows hiding St
/-! ### defs that hold lambdas -/
/-- the code object of the def at f is the one at c -/
def CodeAt (K : PySem.W.Frag) (f c : Addr) : Prop := ∃ (o : Obj) (fd : FuncData), K.lookup f = some o ∧ o.data = .func fd ∧ fd.code = .ref c
theorem LamT.code {K : PySem.W.Frag} {mg : Str → Option Value} {x : Str} {c P f : Addr} (L : LamT K mg x c P) (m : mg x = some (.ref f)) : CodeAt K f c := by
  obtain ⟨f', o, oc, fd, vs, g1, g2, g3, g4, _⟩ := L.ex
  cases m.symm.trans g1
  exact ⟨o, fd, g2, g3, g4⟩
/-- where the code object of a def and its table stand -/
def tabOf (K : PySem.W.Frag) (x : Str) : Option (Addr × Addr) := match PySem.W.nsIn K mainGlobals x with
  | some (some (.ref f)) => (match K.lookup f with
    | some o => (match o.data with
      | .func fd => (match fd.code with
        | .ref c => (match K.lookup c with
          | some oc => (match oc.data with
            | .fields vs => (match (vs[11]? : Option Value) with
              | some (.ref P) => (match K.lookup P with
                | none => some (c, P)
                | some _ => none)
              | _ => none)
            | _ => none)
          | none => none)
        | _ => none)
      | _ => none)
    | none => none)
  | _ => none
theorem tabOf_lam {K : PySem.W.Frag} {mg : Str → Option Value} {h : Heap} {x : Str} {c P : Addr} (X : K.In h) (G : h.Ns mainGlobals mg) (e : tabOf K x = some (c, P)) : LamT K mg x c P := by
  unfold tabOf at e
  split at e
  · rename_i f h1
    split at e
    · rename_i o h2
      split at e
      · rename_i fd h3
        split at e
        · rename_i c' h4
          split at e
          · rename_i oc h5
            split at e
            · rename_i vs h6
              split at e
              · rename_i P' h7
                split at e
                · rename_i h8
                  cases e
                  exact ⟨⟨f, o, oc, fd, vs, PySem.W.mg_of X G h1, h2, h3, h4, h5, h6, h7⟩, h8⟩
                · cases e
              · cases e
            · cases e
          · cases e
        · cases e
      · cases e
    · cases e
  · cases e
/-- two defs hold lambdas, by unlike tables -/
def tabs2 (K : PySem.W.Frag) (x y : Str) : Bool := match tabOf K x, tabOf K y with
  | some p, some q => p.2 != q.2
  | _, _ => false
theorem tabs2_of {K : PySem.W.Frag} {mg : Str → Option Value} {h : Heap} {x y : Str} (X : K.In h) (G : h.Ns mainGlobals mg) (e : tabs2 K x y = true) : ∃ c1 P1 c2 P2, LamT K mg x c1 P1 ∧ LamT K mg y c2 P2 ∧ P1 ≠ P2 := by
  unfold tabs2 at e
  split at e
  · rename_i p q h1 h2
    exact ⟨p.1, p.2, q.1, q.2, tabOf_lam X G h1, tabOf_lam X G h2, fun z => by rw [z] at e; simp at e⟩
  · cases e
def tabs1 (K : PySem.W.Frag) (x : Str) : Bool := (tabOf K x).isSome
theorem tabs1_of {K : PySem.W.Frag} {mg : Str → Option Value} {h : Heap} {x : Str} (X : K.In h) (G : h.Ns mainGlobals mg) (e : tabs1 K x = true) : ∃ c1 P1, LamT K mg x c1 P1 := by
  obtain ⟨p, hp⟩ := Option.isSome_iff_exists.mp e
  exact ⟨p.1, p.2, tabOf_lam X G hp⟩
section
variable {P : Program} {w : World} {K : PySem.W.Frag} {mg : Str → Option Value} {base : Heap}
theorem okGc {x qual : Str} {st : Stmt} {f c : Addr} {fd : FuncData} {N ps : List Str} {k : Nat} {sp : Sp} (F : Fun K x qual st f fd) (ca : CodeAt K f c) (S : FnScope N ps (defScope st))
    (many : ∀ vs H Q E, sp vs H Q E → vs.length = ps.length)
    (body : ∀ (A : Around) (outer : List Env) (s : Shared) (H : Hp) (vs : List V) (Q : VK) (E : XK), A.guards = some [] →
      Room k (A.deeper (envOfC qual (defScope st) s.heap.objs.size f (.ref c))) → sp vs H Q E →
      ∃ t, PSs (cxOf CX0 P w K mg base N qual (defScope st) f (.ref c) A outer s H E).nox (defBody st) t ∧ t { nx := fun _ H' => Q .non H', rt := Q } (start N vs) H) :
    FnG P w K mg base (k + 1) f fd ps sp := by
  obtain ⟨oc, od, kV, doc, pm, an, cdv, ct, osl, rfl, lk, hcd⟩ := F.ex
  obtain ⟨o2, fd2, l2, d2, c2⟩ := ca
  obtain rfl : cdv = Value.ref c := by
    cases lk.symm.trans l2
    cases d2
    exact c2
  refine ⟨many, ?_⟩
  intro A hg room outer s H args us vs Q E e0 bt rv want
  have size := many vs H Q E want
  have kin : K.In s.heap := e0.mod.kin.keeps fun b o e => (e0.bs b o e).1
  have noLim : s.heap.NoLimit := e0.mod.nolimit.keeps fun b o e => (e0.bs b o e).1
  refine codeAny_call_function room.depth (kin _ _ lk) rfl S.co S.gen rfl (PySem.W.codeRec_of kin hcd) (bt _ _ _ _ ?_)
  refine wpAny_newFunctionEnv_cells S.kind ?_ ?_
  · rintro ⟨nm, val⟩ mem
    exact (S.par nm (List.of_mem_zip mem).1).imp id fun c => ⟨c, PySem.W.cellsFrom_some _ _ _ (.inl c)⟩
  · rintro env rfl s1 entry
    refine ⟨noLim.keeps entry.toInCall.keep, codeAny_func ?_⟩
    obtain ⟨t, ht, now⟩ := body A outer s H vs Q E hg (room.deeper _) want
    have J := inv_start (CX := CX0) (E := E) S room.hd e0 size rv entry
    refine wpAny_mono (ht.nox.run [] s1 (start N vs) H _ J now) (fun way s2 out => ?_) fun _ _ z => z
    cases way with
    | ret u =>
      obtain ⟨v, σ2, H2, J2, ru, q2⟩ := out
      exact ⟨v, H2, J2.os, J2.bare, J2.base, J2.hok, ru, q2⟩
    | next =>
      obtain ⟨σ2, H2, J2, q2⟩ := out
      exact ⟨V.non, H2, J2.os, J2.bare, J2.base, J2.hok, rfl, q2⟩
    | brk => exact out.elim fun _ z => z.elim fun _ y => y.2.elim
    | cont => exact out.elim fun _ z => z.elim fun _ y => y.2.elim
end
section
variable {X : Cx}
/-- x(lambda: body), x a def of the law's with the one parameter a -/
theorem pe_tells {T : List (Addr × Str)} {TT : (XK → Hp → VK → Prop) → Hp → VK → Prop} {x a : Str} {st : Stmt} {Ng : List Str} {c Pt : Addr} {k j : Nat} {params : Arguments} {body : Expr} {scope : Scope} {t : XK → TE} {p lpos pos : Pos}
    (A : At X.K X.mg x st) (bd : ∀ (f : Addr) (fd : FuncData), Fun X.K x x st f fd → Binds X.K fd [a] []) (Sg : FnScope Ng [a] (defScope st)) (hN : Ng[0]? = some a) (hva : Vis (defScope st) a)
    (hG : ∀ (g : Addr) (cdg : Value), GivesTo X Ng x (defScope st) g cdg (defBody st) a (X.env.qual ++ "<lambda>") TT) (hg : Gl X x) (TB : TabB X.base X.mg c Pt) (hcode : X.env.code = .ref c)
    (hmT : (Pt, X.env.qual ++ "<lambda>") ∈ T) (hu : ∀ p ∈ T, p.1 = Pt → p.2 = X.env.qual ++ "<lambda>") (hr : Room j X.A) (hk : k + 2 ≤ j) (L : LamS X.env.scope scope)
    (hbody : ∀ (A : Around) (outer : List Env) (s : Shared) (H : Hp) (E : XK) (f c' : Addr), Room k (A.deeper (lamEnv X scope s.heap.objs.size f c')) → PE (lamCx X A outer s H E scope f c') body (t E))
    (hdef : defaultsOf params X.env = ([], []) := by rfl)
    (hbind : ∀ (q : Str) (cl : List (Str × Addr)) (pm cv ctv : Value), bindArgs (PySem.W.kla_fn "<lambda>" q params body scope cl pm cv ctv) ⟨[], []⟩ = pure [] := by exact fun _ _ _ _ _ => rfl)
    (hdb : (x == ("__debug__" : Str)) = false := by decide) (hd : (a == ("__debug__" : Str)) = false := by decide) (hcd : (a == ("__classdict__" : Str)) = false := by decide) :
    PE X (.Call (.Name x p) [.Lambda params body scope lpos] [] pos) (tLam T TT t) := by
  obtain ⟨g, fd, F, m⟩ := A.ex
  have b := bd g fd F
  have kp := F.kp
  obtain ⟨oc, od, kV, doc, pm, an, cdv, ct, osl, rfl, lk, hc⟩ := F.ex
  exact pe_lamcall hg m kp lk hc b Sg hN hva (hG g cdv) TB hcode hmT hu (hr.mono hk) L hdef hbind hbody hdb hd hcd
end
end Rt
namespace K07
open PySem PySem.Spec L2 Rt
open PyProof.Rows hiding St
def spLedX (K : PySem.W.Frag) (C CW : Addr) : Sp := fun vs H Q E => ∃ (a : Addr) (x : Str) (n : Int) (v : V) (ps : List Pt) (rs : List Rl) (o : Option (List V)), vs = [.ref a, .str x, .int n, v] ∧ NetAt H C a ps rs ∧ Good ps rs ∧ Jd K H v o ∧
  (∀ xs, o = some xs → wend rs x xs ≠ none → ∀ H', Same H H' → Q (.int (ledN ps rs n xs)) H') ∧ (o.bind (wend rs x) = none → ∀ H', Same H H' → E (.ref CW) none H')
section
variable {P : Program} {w : World} {K : PySem.W.Frag} {mg : Str → Option Value} {base : Heap} {f C : Addr} {fd : FuncData}
theorem ok_ledX {CW : Addr} (F : Fun K "led" "led" sLed f fd) (OW : Easy K mg "NoWay" CW) (cn : ClsN K C) (M : Meths P w K mg base C) (mCk : Md P w K mg base 4 C "clock" (spMClock C)) (fEnd : Cf P w K mg base 4 "end_of_walk" (spEnd K C)) (fUp : Cf P w K mg base 1 "up" spPUp) : FnOk P w K mg base (L2.CX P w) 5 f fd ["network", "name", "number", "rules"] (spLedX K C CW) := by
  refine F.okX scLed (fun vs H Q E h => ?_) (fun cdv A outer s H vs Q E hr h => ?_)
  · obtain ⟨a, x, n, v, ps, rs, o, rfl, _⟩ := h
    rfl
  · obtain ⟨a, x, n, v, ps, rs, o, rfl, net, good, jd, k, kE⟩ := h
    refine ⟨_, (pss_cons (ps_if (pt_cmpR op_isN (pe_f fEnd hr (by decide) (by rfl) (pa_cons (pv 0) (pa_cons (pv 1) (pa_cons (pv 3) pa_nil)))) pe_non (nomark _)) (pss_one (ps_raE OW rfl (takes_of rfl rfl rfl rfl) (by rfl))) pss_nil)
      (pss_cons (ps_set (i := 4) scLed.nd rfl (.inl rfl) (pe_m0' cn.cls M.rules hr (by decide) (pv 0)))
      (pss_cons (ps_for (passes_of rfl) rfl (pi_seq (pv 3)) (pg_name (i := 5) scLed.nd rfl (.inl rfl))
        (pss_cons (ps_set (i := 6) scLed.nd rfl (.inl rfl) (pe_ix ix_tup (pe_ix ix_list (pv 4) (pv 5) (fun _ _ => rfl)) pe_int (fun _ _ => rfl)))
        (pss_one (ps_set (i := 2) scLed.nd rfl (.inl rfl) (pe_f fUp hr (by decide) (by rfl) (pa_cons (pe_m cn.cls mCk hr (by decide) (pv 0) (pa_cons (pv 6) pa_nil)) (pa_cons (pe_op op_add (pv 2) (pe_ix ix_tup (pe_ix ix_list (pv 4) (pv 5) (fun _ _ => rfl)) pe_int (fun _ _ => rfl))) pa_nil)))))))
      (pss_one (ps_ret (pv 2)))))), ?_⟩
    obtain ⟨dx, fs, hN, look⟩ := net_look net
    refine ⟨_, rfl, _, rfl, _, rfl, a, x, v, ps, rs, o, rfl, net, jd, fun H1 s1 => ?_⟩
    cases hb : o.bind (wend rs x) with
    | none =>
      refine ⟨rfl, _, rfl, ?_⟩
      rw [show decide (endV (none : Option Str) = V.non) = true from rfl]
      exact iteT (kE hb H1 s1)
    | some y0 =>
    obtain ⟨xs, rfl, hy0⟩ : ∃ xs, o = some xs ∧ wend rs x xs = some y0 := by
      cases o with
      | none => cases hb
      | some xs => exact ⟨xs, rfl, hb⟩
    have k := k xs rfl (by rw [hy0]; nofun)
    obtain ⟨q, rfl, hq⟩ : ∃ q, v = .ref q ∧ Row2 H q xs := by
      cases jd with
      | lst h o => exact ⟨_, rfl, .inl h⟩
      | tup h o => exact ⟨_, rfl, .inr h⟩
    refine ⟨rfl, _, rfl, ?_⟩
    rw [decide_eq_false (show ¬ endV (some y0) = V.non from fun z => by cases z)]
    refine iteF ?_
    refine ⟨_, rfl, a, dx, fs, rfl, s1 _ _ hN, look _ (by decide +kernel) (by decide +kernel) (by decide +kernel), a, ps, rs, rfl, net.same s1, fun Lk bs H2 nL s3 hL row => ?_⟩
    have s4 := s1.trans s3
    have hq4 := hq.same s4
    have one : ∃ (J : It) (G : Hp → Prop), Walk J xs.length G (YAt xs) ∧ (∀ H', Same H2 H' → G H') ∧ ∀ R : It → Hp → Prop, R J H2 → seqR K R q H2 := by
      rcases hq4 with h | h
      · exact ⟨_, _, walk_list, fun H' s => SqL.of (s _ _ h), fun R r => .inl ⟨⟨_, SqL.of h⟩, r⟩⟩
      · exact ⟨_, _, walk_tup, fun H' s => SqT.of (s _ _ h), fun R r => .inr ⟨⟨_, SqT.of h⟩, r⟩⟩
    obtain ⟨J, G, wk, gd, pick⟩ := one
    refine ⟨_, rfl, q, rfl, pick _ ?_⟩
    refine for_it wk (fun i σ H3 => ∃ (y : Str) (m : Int) (v5 v6 : Option V), σ = [some (.ref a), some (.str x), some (.int m), some (.ref q), some (.ref Lk), v5, v6] ∧ wend rs y (xs.drop i) = some y0 ∧ ledN ps rs n xs = ledN ps rs m (xs.drop i) ∧ Same H2 H3) ⟨x, n, _, _, rfl, hy0, rfl, fun _ _ z => z⟩ (fun i σ H3 _ ⟨_, _, _, _, _, _, _, z⟩ => gd _ z) ?_ ?_
    · rintro i z σ H3x H3 hi ⟨y, m, v5, v6, rfl, e, el, s3'⟩ ⟨rfl, hz⟩
      have split : xs.drop i = z :: xs.drop (i + 1) := by
        rw [List.drop_eq_getElem_cons hi]
        rw [List.getElem?_eq_getElem hi] at hz
        rw [Option.some.inj hz]
      rw [split] at e el
      have q4 := s4.trans s3'
      obtain ⟨i0, r, rfl, p0, hr0, er, e2⟩ : ∃ (i0 : Int) (r : Rl), z = .int i0 ∧ 0 ≤ i0 ∧ rs[i0.toNat]? = some r ∧ r.1 = y ∧ wend rs r.2.1 (xs.drop (i + 1)) = some y0 := by
        cases z with
        | int i0 =>
          have e : (if 0 ≤ i0 then match rs[i0.toNat]? with
            | some r => if r.1 = y then wend rs r.2.1 (xs.drop (i + 1)) else none
            | none => none
            else none) = some y0 := e
          by_cases p0 : 0 ≤ i0
          · rw [if_pos p0] at e
            cases hr0 : rs[i0.toNat]? with
            | none => rw [hr0] at e; cases e
            | some r =>
              rw [hr0] at e
              by_cases er : r.1 = y
              · exact ⟨i0, r, rfl, p0, hr0, er, by simpa [er] using e⟩
              · simp [er] at e
          · rw [if_neg p0] at e
            cases e
        | _ => cases e
      have el2 : ledN ps rs n xs = ledN ps rs (upv (ck ps r.2.1).1 (ck ps r.2.1).2 (m + r.2.2)) (xs.drop (i + 1)) := by
        rw [el]
        show (match rs[i0.toNat]? with
          | some r => ledN ps rs (upv (ck ps r.2.1).1 (ck ps r.2.1).2 (m + r.2.2)) (xs.drop (i + 1))
          | none => m) = _
        rw [hr0]
      obtain ⟨hi0, er0⟩ := List.getElem?_eq_some_iff.mp hr0
      have hb0 : i0.toNat < bs.length := by rw [row.1]; exact hi0
      have pr : H3 bs[i0.toNat] = some (.tup [.str r.1, .str r.2.1, .int r.2.2]) := s3' _ _ (row.2 i0.toNat _ _ (List.getElem?_eq_getElem hb0) hr0)
      have at_ : atI (bs.map V.ref) i0 = some (.ref bs[i0.toNat]) := by
        have q := atN (xs := bs.map V.ref) (i := i0.toNat) (x := .ref bs[i0.toNat]) (by rw [List.getElem?_map, List.getElem?_eq_getElem hb0]; rfl)
        rwa [show ((i0.toNat : Nat) : Int) = i0 by omega] at q
      have mem := (good.ends r (List.mem_of_getElem? hr0)).2
      obtain ⟨p, mp, ep⟩ := List.mem_map.mp mem
      obtain ⟨j, hj⟩ := List.getElem?_of_mem mp
      have ckp : ck ps r.2.1 = p.2 := by rw [← ep]; exact ck_at good.nd hj
      have p1 : 0 < p.2.2 := by have := (good.ok p mp).2.1; omega
      rw [ckp] at el2
      refine ⟨_, rfl, _, rfl, Lk, _, _, _, rfl, rfl, SqL.of (s3' _ _ hL), at_, bs[i0.toNat], _, _, _, rfl, rfl, SqT.of pr, atN (i := 1) rfl, ?_⟩
      refine ⟨_, rfl, a, dx, fs, rfl, q4 _ _ hN, look _ (by decide +kernel) (by decide +kernel) (by decide +kernel), _, rfl, a, ps, rs, j, p, congrArg (fun z => [V.ref a, V.str z]) ep.symm, net.same q4, good.nd, hj, fun t H4 s5 ht => ?_⟩
      refine ⟨_, rfl, _, rfl, _, rfl, Lk, _, _, _, rfl, rfl, SqL.of (s5 _ _ (s3' _ _ hL)), at_, bs[i0.toNat], _, _, _, rfl, rfl, SqT.of (s5 _ _ pr), atN (i := 2) rfl, _, _, rfl, rfl, t, _, _, _, rfl, ht, p1, ?_⟩
      rw [up_eq p1]
      exact ⟨_, _, _, _, rfl, e2, el2, s3'.trans s5⟩
    · rintro σ H3 ⟨y, m, v5, v6, rfl, e, el, s3'⟩
      rw [List.drop_length] at el
      have r := k _ (s4.trans s3')
      rw [el] at r
      exact ⟨_, rfl, r⟩
end
end K07
/-! own rules: a tuple turned round by a slice -/
namespace Rt
open PySem PySem.Spec L2
open PyProof.Rows hiding St
section
variable {prog : Program} {w : World} {A : Around} {E : Value → Shared → Prop} {s : Shared}
theorem slice_back {sl : Addr} {v1 v2 v3 : Value} {n : Nat} {Q : Int × Int × Nat → Shared → Prop} (isS : s.heap.IsSliceOf sl v1 v2 v3) (p1 : IsPart v1 none) (p2 : IsPart v2 none) (p3 : IsPart v3 (some (-1))) (now : Q ((n : Int) - 1, -1, n) s) :
    wpAny (model prog w) A (Builtin.Slice.sliceApplied (.ref sl) (pure (n : Int))) Q E s := by
  obtain ⟨ob, hob, cls, dat⟩ := id isS
  cases p1
  cases p2
  cases p3 with
  | int _ tk =>
    unfold Builtin.Slice.sliceApplied
    unfold Builtin.Slice.sliceFields
    refine wpAny_bind (wpAny_bind (wpAny_field hob dat (x := .none) rfl (wpAny_bind (wpAny_field hob dat (x := .none) rfl (wpAny_bind (wpAny_field hob dat (x := .int (-1) tk) rfl (wpAny_pure ?_)))))))
    refine wpAny_bind (slicePart_int ?_)
    show wpAny _ _ (if ((-1 : Int) == 0) = true then _ else _) _ _ s
    rw [if_neg (by decide)]
    refine wpAny_bind (slicePart_none (wpAny_bind (slicePart_none (wpAny_bind (wpAny_pure ?_)))))
    show wpAny _ _ (pure ((n : Int) - 1, (-1 : Int), Builtin.Slice.slicePlaces ((n : Int) - 1) (-1) (-1))) _ _ s
    have e : Builtin.Slice.slicePlaces ((n : Int) - 1) (-1) (-1) = n := by
      unfold Builtin.Slice.slicePlaces
      rw [if_neg (by decide)]
      split
      · rw [show (-(-1 : Int)) = 1 by decide, Int.ediv_one]
        omega
      · omega
    rw [e]
    exact wpAny_pure now
theorem pick_all {α : Type} : ∀ (n : Nat) (f : Nat → Option α) (ys : List α), ys.length = n → (∀ k, k < n → f k = ys[k]?) → (List.range n).filterMap f = ys
  | 0, f, ys, l, _ => by
    rw [List.eq_nil_of_length_eq_zero l]
    rfl
  | n + 1, f, ys, l, h => by
    rw [List.range_succ, List.filterMap_append, pick_all n f (ys.take n) (by rw [List.length_take]; omega) (fun k hk => by rw [h k (by omega), List.getElem?_take_of_lt hk])]
    have e := h n (Nat.lt_succ_self n)
    have lt : n < ys.length := by omega
    rw [List.getElem?_eq_getElem lt] at e
    have all : ys.take (n + 1) = ys := List.take_of_length_le (by omega)
    rw [List.take_succ, List.getElem?_eq_getElem lt] at all
    show ys.take n ++ [n].filterMap f = ys
    rw [show [n].filterMap f = [ys[n]] by simp [e]]
    exact all
theorem back_pick (xs : Array Value) : ((List.range xs.size).filterMap fun (k : Nat) => xs[((xs.size : Int) - 1 + (k : Int) * (-1)).toNat]?).toArray = xs.toList.reverse.toArray := by
  congr 1
  refine pick_all _ _ _ (by rw [List.length_reverse, Array.length_toList]) fun k lt => ?_
  rw [List.getElem?_reverse (by rw [Array.length_toList]; exact lt), Array.length_toList, Array.getElem?_toList]
  congr 1
  omega
theorem item_back {t sl : Addr} {items : Array Value} {v1 v2 v3 : Value} {Q : Value → Shared → Prop} (htp : IsTup s.heap t items) (isS : s.heap.IsSliceOf sl v1 v2 v3) (p1 : IsPart v1 none) (p2 : IsPart v2 none) (p3 : IsPart v3 (some (-1)))
    (now : Q (.ref s.heap.objs.size) { s with heap := s.heap.push { cls := .type "tuple", data := .seq items.toList.reverse.toArray } }) (small : items.size ≤ sizeLine) : wpAny (model prog w) A (getItem (.ref t) (.ref sl)) Q E s := by
  have fits : sizeOk (.seq items.toList.reverse.toArray) := by
    show items.toList.reverse.toArray.size ≤ sizeLine
    rw [List.size_toArray, List.length_reverse, Array.length_toList]
    exact small
  obtain ⟨ob, hob, cls, dat⟩ := id isS
  have isT : s.TypeIs (.ref sl) "slice" := ⟨ob, hob, cls⟩
  unfold getItem
  try with_reducible refine wpAny_holding ?_
  first | refine wpAny_bind (wpAny_pure ?_) | skip
  refine wpAny_bind (wpAny_sequenceKey htp.typeIs (by decide) ?_)
  refine wpAny_bind (wpAny_callSpecial?_slot (name := Str.ofString "__getitem__") htp.typeIs PyProof.Rows.slot_tuple_getitem (wpAny_call_entry PyProof.Rows.slot_tuple_getitem htp.typeIs entry_tuple_getitem ?_ (args_tuple_getitem _ _)))
  show wpAny _ _ (Builtin.Tuple.tupleItemsOf (.ref t) >>= _) _ _ s
  refine wpAny_bind (tupleItemsOf_ htp (wpAny_bind (wpAny_typeOf isT ?_)))
  rw [if_pos (by decide)]
  refine wpAny_bind (slice_back isS p1 p2 p3 ?_)
  have no : ¬ ((((items.size : Int) - 1 == 0) && ((-1 : Int) == 1) && (items.size == items.size)) = true) := by
    rw [show ((-1 : Int) == 1) = false by decide, Bool.and_false, Bool.false_and]
    exact Bool.false_ne_true
  show wpAny _ _ (if (((items.size : Int) - 1 == 0) && ((-1 : Int) == 1) && (items.size == items.size)) = true then _ else _) _ _ s
  rw [if_neg no, back_pick]
  first
    | exact wpAny_bind (m := Builtin.Tuple.tupleExact _) (wpAny_newObj_type (wpAny_pure ⟨_, rfl, wpAny_pure now⟩) fits)
    | exact wpAny_bind (m := Builtin.Tuple.tupleExact _) (wpAny_newObj_type (wpAny_bind (wpAny_pure (wpAny_pure ⟨_, rfl, wpAny_pure now⟩))) fits)
    | exact wpAny_bind (wpAny_bind (m := Builtin.Tuple.tupleExact _) (wpAny_newObj_type (wpAny_pure (wpAny_pure ⟨_, rfl, wpAny_pure now⟩)) fits))
    | exact wpAny_bind (wpAny_bind (m := Builtin.Tuple.tupleExact _) (wpAny_newObj_type (wpAny_pure ⟨_, rfl, wpAny_pure now⟩) fits))
end
def tBack (K : PySem.W.Frag) (te : TE) : TE := fun σ H Q => te σ H fun x H1 => ∃ (b : Addr) (us : List V), x = .ref b ∧ SqT K H1 b us ∧ ∀ n, H1 n = none → Q (.ref n) (upd H1 n (.tup us.reverse))
theorem pe_back {X : Cx} {e : Expr} {te : TE} {k : Nat} {q1 q2 q3 q : Pos} (he : PE X e te) : PE X (.Subscript e (.Slice none none (some (.UnaryOp .USub (.Constant (.int 1) k q1) q2)) q3) q) (tBack X.K te) := by
  constructor
  intro pins s σ H Q I want
  refine Subscript_ (thn (he.run pins s σ H _ I want) ?_)
  rintro v s1 ⟨x, H1, I1, r1, b, us, rfl, hb, now⟩
  cases r1
  have neg : PO X (some (.UnaryOp .USub (.Constant (.int 1) k q1) q2)) (tPart (tUn (rU fun i => .int (-i)) (tC (.int 1)))) := po_some (pe_un un_neg pe_int)
  refine wpAny_Slice (thn (po_none.run pins s1 σ H1 (fun o H2 => o = none ∧ H2 = H1) I1 ⟨rfl, rfl⟩) ?_)
  rintro w1 s2 ⟨_, H2, I2, p1, rfl, rfl⟩
  refine thn (po_none.run pins s2 σ H2 (fun o H3 => o = none ∧ H3 = H2) I2 ⟨rfl, rfl⟩) ?_
  rintro w2 s3 ⟨_, H3, I3, p2, rfl, rfl⟩
  refine thn (neg.run pins s3 σ H3 (fun o H4 => o = some (-1) ∧ H4 = H3) I3 ⟨1, rfl, -1, rfl, rfl, rfl⟩) ?_
  rintro w3 s4 ⟨_, H4, I4, p3, rfl, rfl⟩
  have I5 : Inv X pins σ H4 { s4 with heap := s4.heap.push { cls := .type "slice", data := .fields #[w1, w2, w3] } } := I4.kept (t' := s4.toks) fun c oc z => Heap.get?_push_of_some _ z
  obtain ⟨its, rv, htp, small⟩ := I5.tuple hb
  have same := rv.length
  show wpAny (model X.prog X.w) X.A (subscriptTail e (.Slice none none (some (.UnaryOp .USub (.Constant (.int 1) k q1) q2)) q3) (.ref b) (.ref s4.heap.objs.size)) (EP X pins σ Q) X.xe { s4 with heap := s4.heap.push { cls := .type "slice", data := .fields #[w1, w2, w3] } }
  refine tail_any (ops := [.ref b, .ref s4.heap.objs.size]) htp.typeIs (PyProof.Rows.slot_tuple_getitem.lookup) ?_ (by with_unfolding_all rfl)
  refine item_back htp (Heap.IsSliceOf.new _ w1 w2 w3) p1 p2 p3 ?_ (by rw [List.size_toArray]; omega)
  refine ⟨.ref _, _, I5.laid (t' := s4.toks) (o := .tup us.reverse) (fun c oc z => Heap.get?_push_of_some _ z) (Nat.le_refl _) ?_, rfl, now _ (I5.hok.fresh (Nat.le_refl _))⟩
  exact ⟨by rw [List.length_reverse]; exact small, _, rv.reverse, IsTup.new _ _⟩
end Rt
/-! what the texts of all laws share: the source of numbers, the heap without it, data -/
namespace Rs
open PySem PySem.Spec L2 Rt
open PyProof.Rows hiding St
theorem n_cl : ¬ (("cells" : Str) = "left") := by decide +kernel
theorem n_cm : ¬ (("cells" : Str) = "mixed") := by decide +kernel
theorem n_ct : ¬ (("cells" : Str) = "turn") := by decide +kernel
theorem n_lm : ¬ (("left" : Str) = "mixed") := by decide +kernel
theorem n_lt : ¬ (("left" : Str) = "turn") := by decide +kernel
theorem n_mt : ¬ (("mixed" : Str) = "turn") := by decide +kernel
def srcK (c : Addr) (l m t : Int) : List (Key × V) := [(Sum.inr "cells", .ref c), (Sum.inr "left", .int l), (Sum.inr "mixed", .int m), (Sum.inr "turn", .int t)]
theorem ne_inr {a b : Str} (h : ¬ a = b) : ¬ ((Sum.inr a : Key) = Sum.inr b) := fun e => h (Sum.inr.inj e)
theorem val_cells (c : Addr) (l m t : Int) : valV (srcK c l m t) (Sum.inr "cells") = some (.ref c) := valV_pos rfl
theorem val_left (c : Addr) (l m t : Int) : valV (srcK c l m t) (Sum.inr "left") = some (.int l) := by
  unfold srcK
  rw [valV_neg (ne_inr n_cl), valV_pos rfl]
theorem val_mixed (c : Addr) (l m t : Int) : valV (srcK c l m t) (Sum.inr "mixed") = some (.int m) := by
  unfold srcK
  rw [valV_neg (ne_inr n_cm), valV_neg (ne_inr n_lm), valV_pos rfl]
theorem val_turn (c : Addr) (l m t : Int) : valV (srcK c l m t) (Sum.inr "turn") = some (.int t) := by
  unfold srcK
  rw [valV_neg (ne_inr n_ct), valV_neg (ne_inr n_lt), valV_neg (ne_inr n_mt), valV_pos rfl]
theorem put_left (c : Addr) (l m t z : Int) : putK (srcK c l m t) (Sum.inr "left") (.int z) = srcK c z m t := by
  have h1 := ne_inr n_cl
  have h2 := ne_inr (fun e => n_lm e.symm)
  have h3 := ne_inr (fun e => n_lt e.symm)
  unfold putK srcK
  simp [h1, h2, h3]
theorem put_mixed (c : Addr) (l m t z : Int) : putK (srcK c l m t) (Sum.inr "mixed") (.int z) = srcK c l z t := by
  have h1 := ne_inr n_cm
  have h2 := ne_inr n_lm
  have h3 := ne_inr (fun e => n_mt e.symm)
  unfold putK srcK
  simp [h1, h2, h3]
theorem put_turn (c : Addr) (l m t z : Int) : putK (srcK c l m t) (Sum.inr "turn") (.int z) = srcK c l m z := by
  have h1 := ne_inr n_ct
  have h2 := ne_inr n_lt
  have h3 := ne_inr n_mt
  unfold putK srcK
  simp [h1, h2, h3]
section
variable {H : Hp} {d c : Addr} {l m t : Int}
theorem get_cells (h : H d = some (.dK (srcK c l m t))) : DGet H d (.str "cells") (some (.ref c)) := by
  have z := DGet.k (k := (Sum.inr "cells" : Key)) h
  rw [val_cells] at z
  exact z
theorem get_left (h : H d = some (.dK (srcK c l m t))) : DGet H d (.str "left") (some (.int l)) := by
  have z := DGet.k (k := (Sum.inr "left" : Key)) h
  rw [val_left] at z
  exact z
theorem get_mixed (h : H d = some (.dK (srcK c l m t))) : DGet H d (.str "mixed") (some (.int m)) := by
  have z := DGet.k (k := (Sum.inr "mixed" : Key)) h
  rw [val_mixed] at z
  exact z
theorem get_turn (h : H d = some (.dK (srcK c l m t))) : DGet H d (.str "turn") (some (.int t)) := by
  have z := DGet.k (k := (Sum.inr "turn" : Key)) h
  rw [val_turn] at z
  exact z
theorem few4 : (srcK c l m t).length < sizeLine := by show 4 < sizeLine; decide
theorem st_left (h : H d = some (.dK (srcK c l m t))) (z : Int) : DPut H d (.str "left") (.int z) (upd H d (.dK (srcK c z m t))) := by
  have q := DPut.k (k := (Sum.inr "left" : Key)) (v := .int z) h few4
  rw [put_left] at q
  exact q
theorem st_mixed (h : H d = some (.dK (srcK c l m t))) (z : Int) : DPut H d (.str "mixed") (.int z) (upd H d (.dK (srcK c l z t))) := by
  have q := DPut.k (k := (Sum.inr "mixed" : Key)) (v := .int z) h few4
  rw [put_mixed] at q
  exact q
theorem st_turn (h : H d = some (.dK (srcK c l m t))) (z : Int) : DPut H d (.str "turn") (.int z) (upd H d (.dK (srcK c l m z))) := by
  have q := DPut.k (k := (Sum.inr "turn" : Key)) (v := .int z) h few4
  rw [put_turn] at q
  exact q
end
structure Src (H : Hp) (d c : Addr) : Prop where
  ex : ∃ (ks : List Int) (l m t : Int), H d = some (.dK (srcK c l m t)) ∧ H c = some (.lst (ks.map V.int))
def Keep (d c : Addr) (H H' : Hp) : Prop := ∀ b o, H b = some o → b ≠ d → b ≠ c → H' b = some o
theorem Keep.refl {d c : Addr} {H : Hp} : Keep d c H H := fun _ _ e _ _ => e
theorem Keep.trans {d c : Addr} {H H1 H2 : Hp} (a : Keep d c H H1) (b : Keep d c H1 H2) : Keep d c H H2 := fun x o e n1 n2 => b x o (a x o e n1 n2) n1 n2
theorem Keep.new {d c p : Addr} {o : HO} {H H1 : Hp} (a : Keep d c H H1) (n : H1 p = none) : Keep d c H (upd H1 p o) := fun x u e n1 n2 => by
  have z := a x u e n1 n2
  rw [upd_ne (ne_of_none z n)]
  exact z
theorem Keep.d {d c : Addr} {o : HO} {H H1 : Hp} (a : Keep d c H H1) : Keep d c H (upd H1 d o) := fun x u e n1 n2 => by
  rw [upd_ne n1]
  exact a x u e n1 n2
theorem Keep.c {d c : Addr} {o : HO} {H H1 : Hp} (a : Keep d c H H1) : Keep d c H (upd H1 c o) := fun x u e n1 n2 => by
  rw [upd_ne n2]
  exact a x u e n1 n2
theorem Src.new {d c p : Addr} {o : HO} {H : Hp} (S : Src H d c) (n : H p = none) : Src (upd H p o) d c := by
  obtain ⟨ks, l, m, t, h1, h2⟩ := S.ex
  exact ⟨ks, l, m, t, by rw [upd_ne (ne_of_none h1 n)]; exact h1, by rw [upd_ne (ne_of_none h2 n)]; exact h2⟩
theorem Src.nd {d c : Addr} {H : Hp} {b : Addr} {xs : List V} (S : Src H d c) (h : H b = some (.tup xs)) : b ≠ d ∧ b ≠ c := by
  obtain ⟨ks, l, m, t, h1, h2⟩ := S.ex
  exact ⟨ne_of h h1 (by intro z; cases z), ne_of h h2 (by intro z; cases z)⟩
theorem Keep.tup {d c : Addr} {H H1 : Hp} {b : Addr} {xs : List V} (a : Keep d c H H1) (S : Src H d c) (h : H b = some (.tup xs)) : H1 b = some (.tup xs) := a b _ h (S.nd h).1 (S.nd h).2
def spSource (K : PySem.W.Frag) : Sp := fun vs H Q _ => ∃ (a : Addr) (ns : List Int), vs = [.ref a] ∧ SqL K H a (ns.map V.int) ∧ ns.length ≤ 63 ∧
  ∀ (d c : Addr) (H' : Hp), H d = none → H c = none → Src H' d c → Same H H' → Q (.ref d) H'
def spPick : Sp := fun vs H Q _ => ∃ (d c : Addr) (n : Int), vs = [.ref d, .int n] ∧ Src H d c ∧ n < 1000000000 ∧
  ∀ (r : Int) (H' : Hp), 0 ≤ r → r < n ∨ r = 0 → Src H' d c → Keep d c H H' → Q (.int r) H'
def spOf : Sp := fun vs H Q _ => ∃ (d c p : Addr) (xs : List V), vs = [.ref d, .ref p] ∧ Src H d c ∧ H p = some (.lst xs) ∧ p ≠ c ∧ 0 < xs.length ∧ xs.length < 1000000000 ∧
  ∀ (i : Nat) (v : V) (H' : Hp), xs[i]? = some v → Src H' d c → Keep d c H H' → Q v H'
theorem merge_src (c : Addr) (l m t : Int) : mergeK [] (srcK c l m t) = srcK c l m t := by
  have h1 := ne_inr n_cl
  have h2 := ne_inr n_cm
  have h3 := ne_inr n_ct
  have h4 := ne_inr n_lm
  have h5 := ne_inr n_lt
  have h6 := ne_inr n_mt
  unfold mergeK srcK putK
  simp [h1, h2, h3, h4, h5, h6]
theorem int_at {ns : List Int} {i : Nat} {y : V} (h : (ns.map V.int)[i]? = some y) : ∃ z, ns[i]? = some z ∧ y = V.int z := by
  rw [List.getElem?_map] at h
  cases e : ns[i]? with
  | none => rw [e] at h; cases h
  | some z => rw [e] at h; exact ⟨z, rfl, (Option.some.inj h).symm⟩
theorem same_new {H : Hp} {p : Addr} {o : HO} (n : H p = none) : Same H (upd H p o) := fun b u e => by
  rw [upd_ne (ne_of_none e n)]
  exact e
theorem pick_at {α : Type} {xs : List α} {r : Int} (h0 : 0 ≤ r) (h1 : r < xs.length) : ∃ v, atI xs r = some v ∧ v ∈ xs := by
  obtain ⟨j, ej⟩ : ∃ j : Nat, r = (j : Int) := ⟨r.toNat, by omega⟩
  have hj : j < xs.length := by omega
  refine ⟨xs[j], ?_, List.getElem_mem hj⟩
  subst ej
  unfold atI ixN
  rw [if_pos h0, if_pos h1]
  show xs[((j : Int)).toNat]? = _
  rw [Int.toNat_natCast, List.getElem?_eq_getElem hj]
theorem Src.away {d c p : Addr} {H : Hp} (S : Src H d c) (n : H p = none) : p ≠ d ∧ p ≠ c := by
  obtain ⟨ks, l, m, u, h1, h2⟩ := S.ex
  exact ⟨(ne_of_none h1 n).symm, (ne_of_none h2 n).symm⟩
theorem Src.put {d c L : Addr} {o : HO} {H : Hp} (S : Src H d c) (a : L ≠ d ∧ L ≠ c) : Src (upd H L o) d c := by
  obtain ⟨ks, l, m, u, h1, h2⟩ := S.ex
  exact ⟨ks, l, m, u, by rw [upd_ne a.1.symm]; exact h1, by rw [upd_ne a.2.symm]; exact h2⟩
theorem Keep.put {d c L : Addr} {o : HO} {H H1 : Hp} (a : Keep d c H H1) (n : H L = none) : Keep d c H (upd H1 L o) := fun x u e n1 n2 => by
  rw [upd_ne (ne_of_none e n)]
  exact a x u e n1 n2
def Row {α : Type} (f : α → HO) (H : Hp) (as : List Addr) (ps : List α) : Prop := as.length = ps.length ∧ ∀ (i : Nat) (a : Addr) (p : α), as[i]? = some a → ps[i]? = some p → H a = some (f p)
theorem Row.same {α : Type} {f : α → HO} {H H' : Hp} {as : List Addr} {ps : List α} (r : Row f H as ps) (s : Same H H') : Row f H' as ps := ⟨r.1, fun i a p h1 h2 => s _ _ (r.2 i a p h1 h2)⟩
theorem atI_0 {α : Type} {a : α} {xs : List α} : atI (a :: xs) 0 = some a := by
  unfold atI ixN
  rw [if_pos (Int.le_refl 0), if_pos (by simp)]
  rfl
theorem get_k {H : Hp} {d : Addr} {kvs : List (Key × V)} {x : Str} (h : H d = some (.dK kvs)) : DGet H d (.str x) (valV kvs (Sum.inr x)) := DGet.k (k := Sum.inr x) h
theorem kitLT {K : PySem.W.Frag} {t : Value} (h : t = .type "list" ∨ t = .type "tuple") : PySem.W.kitAny K t [.type "list", .type "tuple"] = some true := by
  rcases h with rfl | rfl
  · exact kitAny_cons (b := true) (kit_ty (by decide +kernel)) (fun z => nomatch z) (fun _ => rfl)
  · exact kitAny_cons (b := false) (kit_ty (by decide +kernel)) (fun _ => kitAny_cons (b := true) (kit_ty (by decide +kernel)) (fun z => nomatch z) (fun _ => rfl)) (fun z => nomatch z)
def Sbut (a : Addr) (H H' : Hp) : Prop := ∀ b o, H b = some o → b ≠ a → H' b = some o
theorem Sbut.refl {a : Addr} {H : Hp} : Sbut a H H := fun _ _ e _ => e
theorem Sbut.trans {a : Addr} {H H1 H2 : Hp} (x : Sbut a H H1) (y : Sbut a H1 H2) : Sbut a H H2 := fun b o e n => y b o (x b o e n) n
theorem Sbut.of {a : Addr} {H H' : Hp} (s : Same H H') : Sbut a H H' := fun b o e _ => s b o e
theorem Sbut.put {a : Addr} {o : HO} {H : Hp} : Sbut a H (upd H a o) := fun b u e n => by
  rw [upd_ne n]
  exact e
theorem Row.but {α : Type} {f : α → HO} {a : Addr} {H H' : Hp} {as : List Addr} {ps : List α} (r : Row f H as ps) (s : Sbut a H H') (n : a ∉ as) : Row f H' as ps :=
  ⟨r.1, fun i b p h1 h2 => s _ _ (r.2 i b p h1 h2) fun e => n (e ▸ List.mem_of_getElem? h1)⟩
theorem row_not {α : Type} {f : α → HO} {a : Addr} {o : HO} {H : Hp} {as : List Addr} {ps : List α} (r : Row f H as ps) (h : H a = some o) (d : ∀ p, o ≠ f p) : a ∉ as := fun m => by
  obtain ⟨i, hi, e⟩ := List.getElem_of_mem m
  have hp : i < ps.length := by rw [← r.1]; exact hi
  have q := r.2 i a ps[i] (by rw [List.getElem?_eq_getElem hi, e]) (List.getElem?_eq_getElem hp)
  rw [h] at q
  exact d _ (Option.some.inj q)
def kindOf : HO → Option String
  | .lst _ => some "list"
  | .tup _ => some "tuple"
  | .dK _ => some "dict"
  | _ => none
def Od (H : Hp) : V → Prop
  | .ref t => ∃ o T, H t = some o ∧ kindOf o = some T
  | .ty _ => False
  | .byt _ => False
  | .flt _ => False
  | _ => True
def isI : V → Bool
  | .int _ => true
  | _ => false
theorem od_type {K : PySem.W.Frag} {H : Hp} {v : V} (h : Od H v) : ∃ T b1 b2, TyX K H v (.type T) ∧ kitB T "int" = some b1 ∧ kitB T "bool" = some b2 ∧ (b1 && !b2) = isI v := by
  cases v with
  | non => exact ⟨_, false, false, .base .non, by decide +kernel, by decide +kernel, rfl⟩
  | bl b => exact ⟨_, true, true, .base (.bl b), by decide +kernel, by decide +kernel, rfl⟩
  | int i => exact ⟨_, true, false, .base (.int i), by decide +kernel, by decide +kernel, rfl⟩
  | str x => exact ⟨_, false, false, .base (.str x), by decide +kernel, by decide +kernel, rfl⟩
  | byt b => exact h.elim
  | flt b => exact h.elim
  | ty n => exact h.elim
  | ref t =>
    obtain ⟨o, T, e, k⟩ := h
    cases o with
    | lst xs => exact ⟨_, false, false, .base (.lst e), by decide +kernel, by decide +kernel, rfl⟩
    | tup xs => exact ⟨_, false, false, .base (.tup e), by decide +kernel, by decide +kernel, rfl⟩
    | dK kvs => exact ⟨_, false, false, .base (.dK e), by decide +kernel, by decide +kernel, rfl⟩
    | _ => cases k
def onB (f s : Int) : V → Bool
  | .int i => decide ((i - f) % s = 0)
  | _ => false
theorem dec_V (i j : Int) : decide (V.int i = V.int j) = decide (i = j) := by
  by_cases h : i = j
  · subst h
    simp
  · rw [decide_eq_false h]
    exact decide_eq_false fun z => h (V.int.inj z)
def spIsInt : Sp := fun vs H Q _ => ∃ v, vs = [v] ∧ Od H v ∧ Q (.bl (isI v)) H
def spOn : Sp := fun vs H Q _ => ∃ (t : Addr) (f s : Int) (v : V), vs = [.ref t, v] ∧ H t = some (.tup [.int f, .int s]) ∧ 0 < s ∧ Od H v ∧ Q (.bl (onB f s v)) H
theorem Keep.od {d c : Addr} {H H1 : Hp} {v : V} (a : Keep d c H H1) (w : ∀ t, v = .ref t → t ≠ d ∧ t ≠ c) (h : Od H v) : Od H1 v := by
  cases v with
  | ref t =>
    obtain ⟨o, T, e, k⟩ := h
    obtain ⟨n1, n2⟩ := w t rfl
    exact ⟨o, T, a t o e n1 n2, k⟩
  | non => exact True.intro
  | bl b => exact True.intro
  | int i => exact True.intro
  | str x => exact True.intro
  | byt b => exact h.elim
  | flt b => exact h.elim
  | ty n => exact h.elim

theorem Od.same {H H' : Hp} {v : V} (s : Same H H') (h : Od H v) : Od H' v := by
  cases v with
  | ref t =>
    obtain ⟨o, T, e, k⟩ := h
    exact ⟨o, T, s _ _ e, k⟩
  | non => exact True.intro
  | bl b => exact True.intro
  | int i => exact True.intro
  | str x => exact True.intro
  | byt b => exact h.elim
  | flt b => exact h.elim
  | ty n => exact h.elim
def Row2 (H : Hp) (q : Addr) (xs : List V) : Prop := H q = some (.lst xs) ∨ H q = some (.tup xs)
theorem Row2.same {H H' : Hp} {q : Addr} {xs : List V} (s : Same H H') (h : Row2 H q xs) : Row2 H' q xs := h.imp (s _ _) (s _ _)
theorem Row2.type {K : PySem.W.Frag} {H : Hp} {q : Addr} {xs : List V} (h : Row2 H q xs) : ∃ T : String, TyX K H (.ref q) (.type T) ∧ PySem.W.kitAny K (.type T) [.type "list", .type "tuple"] = some true := by
  rcases h with h | h
  · exact ⟨_, .base (.lst h), kitLT (.inl rfl)⟩
  · exact ⟨_, .base (.tup h), kitLT (.inr rfl)⟩
theorem Row2.seq {K : PySem.W.Frag} {H : Hp} {q : Addr} {xs : List V} (h : Row2 H q xs) : SqL K H q xs ∨ SqT K H q xs := h.imp SqL.of SqT.of
theorem onB_int {f s : Int} {x : V} (h : onB f s x = true) : ∃ z, x = .int z := by
  cases x with
  | int z => exact ⟨z, rfl⟩
  | _ => exact absurd h (by simp [onB])
theorem rIx_of {K : PySem.W.Frag} {H : Hp} {q : Addr} {xs : List V} {i : Int} {x : V} {Q : VK} (h : Row2 H q xs) (e : atI xs i = some x) (k : Q x H) : rIx K (.ref q) (.int i) H Q := by
  rcases h with h | h
  · exact .inl ⟨q, xs, i, x, rfl, rfl, SqL.of h, e, k⟩
  · exact .inr (.inl ⟨q, xs, i, x, rfl, rfl, SqT.of h, e, k⟩)
theorem atN {xs : List V} {i : Nat} {x : V} (h : xs[i]? = some x) : atI xs (i : Int) = some x := at_of (j := i) rfl h
theorem kitLT0 {K : PySem.W.Frag} {T : String} (h1 : kitB T "list" = some false) (h2 : kitB T "tuple" = some false) : PySem.W.kitAny K (.type T) [.type "list", .type "tuple"] = some false :=
  kitAny_cons (b := false) (kit_ty h1) (fun _ => kitAny_cons (b := false) (kit_ty h2) (fun _ => kitAny_nil) (fun z => nomatch z)) (fun z => nomatch z)
section
variable {d c p : Addr} {H H' : Hp} {o : HO}
def mask (d c : Addr) (H : Hp) : Hp := fun b => if b = d ∨ b = c then none else H b
theorem mask_same : Same (mask d c H) H := fun b u e => by
  unfold mask at e
  split at e
  · cases e
  · exact e
theorem mask_keep (a : Keep d c H H') : Same (mask d c H) (mask d c H') := fun b u e => by
  unfold mask at e ⊢
  split at e
  · cases e
  · rename_i n
    rw [if_neg n]
    exact a b u e (fun z => n (.inl z)) (fun z => n (.inr z))
theorem mask_new (n : H p = none) : Same (mask d c H) (mask d c (upd H p o)) := mask_keep (Keep.refl.new n)
theorem mask_at (n : p ≠ d ∧ p ≠ c) (e : H p = some o) : mask d c H p = some o := by
  unfold mask
  rw [if_neg (fun z => z.elim n.1 n.2)]
  exact e
theorem Src.same (S : Src H d c) (s : Same H H') : Src H' d c := by
  obtain ⟨ks, l, m, u, h1, h2⟩ := S.ex
  exact ⟨ks, l, m, u, s _ _ h1, s _ _ h2⟩
end
def upv (f s x : Int) : Int := f + (x - f + s - 1) / s * s
theorem upv_on (f s x : Int) : (upv f s x - f) % s = 0 := by
  unfold upv
  rw [show f + (x - f + s - 1) / s * s - f = s * ((x - f + s - 1) / s) by rw [Int.mul_comm s]; omega, Int.mul_emod_right]
theorem upv_le {f s x : Int} (h : 0 < s) : x ≤ upv f s x := by
  unfold upv
  have h1 := Int.emod_def (x - f + s - 1) s
  have h2 := Int.emod_lt_of_pos (x - f + s - 1) h
  rw [Int.mul_comm] at h1
  omega
theorem upv_lt {f s x : Int} (h : 0 < s) : upv f s x < x + s := by
  unfold upv
  have h1 := Int.emod_def (x - f + s - 1) s
  have h2 := Int.emod_nonneg (x - f + s - 1) (Int.ne_of_gt h)
  rw [Int.mul_comm] at h1
  omega
def spLUp : Sp := fun vs H Q _ => ∃ (t : Addr) (f s x : Int), vs = [.ref t, .int x] ∧ H t = some (.tup [.int f, .int s]) ∧ 0 < s ∧ s < 1000 ∧ Q (.int (upv f s x)) H
theorem mask_but {d c D : Addr} {o : HO} {H : Hp} : Sbut D (mask d c H) (mask d c (upd H D o)) := fun b u e n => by
  unfold mask at e ⊢
  split at e
  · cases e
  · rename_i z
    rw [if_neg z, upd_ne n]
    exact e
theorem Row.snoc {α : Type} {f : α → HO} {H : Hp} {as : List Addr} {ps : List α} {a : Addr} {p : α} (r : Row f H as ps) (h : H a = some (f p)) : Row f H (as ++ [a]) (ps ++ [p]) := by
  refine ⟨by rw [List.length_append, List.length_append, r.1]; rfl, fun i b q h1 h2 => ?_⟩
  rcases Nat.lt_or_ge i as.length with lt | ge
  · rw [List.getElem?_append_left lt] at h1
    rw [List.getElem?_append_left (by rw [← r.1]; exact lt)] at h2
    exact r.2 i b q h1 h2
  · have e : i = as.length := by
      have := (List.getElem?_eq_some_iff.mp h1).1
      rw [List.length_append] at this
      simp at this
      omega
    rw [e, List.getElem?_append_right (Nat.le_refl _), Nat.sub_self] at h1
    rw [e, r.1, List.getElem?_append_right (Nat.le_refl _), Nat.sub_self] at h2
    cases h1
    cases h2
    exact h
theorem merge2 {a b : Str} {x y : V} (h : ¬ a = b) : mergeK [] [((Sum.inr a : Key), x), (Sum.inr b, y)] = [(Sum.inr a, x), (Sum.inr b, y)] := by
  have h1 := ne_inr h
  unfold mergeK putK
  simp [h1]
theorem eqvAll_ints : ∀ xs ys : List Int, PyData.eqvAll (xs.map PyData.int) (ys.map PyData.int) = decide (xs = ys)
  | [], [] => by simp [PyData.eqvAll]
  | [], _ :: _ => by simp [PyData.eqvAll]
  | _ :: _, [] => by simp [PyData.eqvAll]
  | x :: xs, y :: ys => by
    have h := eqvAll_ints xs ys
    have e : (x == y) = decide (x = y) := by
      rw [Bool.eq_iff_iff]
      simp
    simp [PyData.eqvAll, PyData.eqv, h, e]
theorem eqv_ints (xs ys : List Int) : PyData.eqv (.list (xs.map PyData.int)) (.list (ys.map PyData.int)) = decide (xs = ys) := by
  simp [PyData.eqv, eqvAll_ints]
theorem dpAll_ints {K : PySem.W.Frag} {H : Hp} : ∀ ks : List Int, DpAll K H (ks.map V.int) (ks.map PyData.int)
  | [] => .nil
  | k :: ks => .cons (.int k) (dpAll_ints ks)
theorem lay_ints : ∀ ks : List Int, PyData.canLayAll0 (ks.map PyData.int) = true
  | [] => by simp [PyData.canLayAll0]
  | k :: ks => by
    have h := lay_ints ks
    simp [PyData.canLayAll0, PyData.canLay0, h]
theorem depth_ints : ∀ ks : List Int, PyData.depthAll (ks.map PyData.int) = 0
  | [] => by simp [PyData.depthAll]
  | k :: ks => by
    have h := depth_ints ks
    simp [PyData.depthAll, PyData.depth, h]
theorem shaped_ints (ks : List Int) : SeqAt.shaped (.list (ks.map PyData.int)) = true := by
  unfold SeqAt.shaped
  simp [PyData.canLay0, lay_ints, PyData.depth, depth_ints]
theorem int_get {ys : List Int} {i : Nat} {z : Int} (h : (ys.map V.int)[i]? = some (V.int z)) : ys[i]? = some z := by
  obtain ⟨y, hy, e⟩ := int_at h
  cases e
  exact hy
theorem set_self {xs : List Int} {p : Nat} {z : Int} (h : xs[p]? = some z) : xs.set p z = xs := by
  refine List.ext_getElem? fun m => ?_
  by_cases e : p = m
  · subst e
    rw [List.getElem?_set_self (List.getElem?_eq_some_iff.mp h).1, h]
  · rw [List.getElem?_set_ne e]
theorem sqT_same {K : PySem.W.Frag} {H H' : Hp} {a : Addr} {xs : List V} (s : Same H H') (h : SqT K H a xs) : SqT K H' a xs := by
  rcases h with (h | ⟨o, h⟩) | h
  · exact .inl (.inl (s _ _ h))
  · exact .inl (.inr ⟨o, s _ _ h⟩)
  · exact .inr h
mutual
theorem Dx.same {K : PySem.W.Frag} {H H' : Hp} (s : Same H H') : ∀ (v : V) (d : PyData), Dx K H v d → Dx K H' v d
  | _, _, .non => .non
  | _, _, .bl b => .bl b
  | _, _, .int i => .int i
  | _, _, .str x => .str x
  | _, _, .lst h a => .lst (s.seq h) (DxAll.same s _ _ a)
  | _, _, .tup h a => .tup (sqT_same s h) (DxAll.same s _ _ a)
  | _, _, .dic h a => .dic (s _ _ h) (DxAll.same s _ _ a)
theorem DxAll.same {K : PySem.W.Frag} {H H' : Hp} (s : Same H H') : ∀ (vs : List V) (ds : List PyData), DxAll K H vs ds → DxAll K H' vs ds
  | _, _, .nil => .nil
  | _, _, .cons h t => .cons (Dx.same s _ _ h) (DxAll.same s _ _ t)
end
structure Nice (d : PyData) : Prop where
  sh : d.showable = true
  dp : d.depth ≤ 5
  ln : d.shown.length ≤ 10000
theorem Nice.one {d : PyData} (n : Nice d) : d.showable = true ∧ d.depth ≤ 60 ∧ d.shown.length ≤ sizeLine := ⟨n.sh, Nat.le_trans n.dp (by decide), Nat.le_trans n.ln (by decide)⟩
structure Sm (d : PyData) : Prop where
  sh : d.showable = true
  dp : d.depth ≤ 2
  ln : d.shown.length ≤ 450
theorem Sm.nice {d : PyData} (h : Sm d) : Nice d := ⟨h.sh, Nat.le_trans h.dp (by decide), Nat.le_trans h.ln (by decide)⟩
theorem sm_int {i : Int} (h : i.natAbs < 10 ^ 40) : Sm (.int i) := by
  refine ⟨?_, by simp [PyData.depth], ?_⟩
  · simp only [PyData.showable, decide_eq_true_eq]
    rcases Nat.eq_zero_or_pos i.natAbs with z | z
    · rw [z]
      decide
    · rw [Nat.log2_lt (Nat.ne_of_gt z)]
      exact Nat.lt_trans h (by decide +kernel)
  · simp only [PyData.shown]
    rw [ofString_len]
    exact Nat.le_trans (int_text_length_le10 (k := 40) (by decide) h) (by decide)
theorem sum_le {ds : List PyData} (h : ∀ d, d ∈ ds → Sm d) : ((PyData.shownAll ds).map (·.length)).sum ≤ 450 * ds.length ∧ (PyData.shownAll ds).length = ds.length ∧ PyData.showableAll ds = true ∧ PyData.depthAll ds ≤ 2 := by
  induction ds with
  | nil => exact ⟨by simp [PyData.shownAll], by simp [PyData.shownAll], by simp [PyData.showableAll], by simp [PyData.depthAll]⟩
  | cons d ds ih =>
    obtain ⟨i1, i2, i3, i4⟩ := ih fun x m => h x (List.mem_cons_of_mem _ m)
    have s := h d List.mem_cons_self
    have s1 := s.ln
    have s2 := s.dp
    refine ⟨?_, ?_, ?_, ?_⟩
    · simp only [PyData.shownAll, List.map_cons, List.sum_cons, List.length_cons]
      omega
    · simp only [PyData.shownAll, List.length_cons, i2]
    · simp only [PyData.showableAll, s.sh, i3, Bool.and_self]
    · simp only [PyData.depthAll]
      omega
theorem dxAll_ints {K : PySem.W.Frag} {H : Hp} : ∀ ks : List Int, DxAll K H (ks.map V.int) (ks.map PyData.int)
  | [] => .nil
  | k :: ks => .cons (.int k) (dxAll_ints ks)
mutual
theorem Dp.same {K : PySem.W.Frag} {H H' : Hp} (s : Same H H') : ∀ (v : V) (d : PyData), Dp K H v d → Dp K H' v d
  | _, _, .non => .non
  | _, _, .bl b => .bl b
  | _, _, .int i => .int i
  | _, _, .str x => .str x
  | _, _, .lst h a => .lst (s.seq h) (DpAll.same s _ _ a)
  | _, _, .tup h a => .tup (sqT_same s h) (DpAll.same s _ _ a)
theorem DpAll.same {K : PySem.W.Frag} {H H' : Hp} (s : Same H H') : ∀ (vs : List V) (ds : List PyData), DpAll K H vs ds → DpAll K H' vs ds
  | _, _, .nil => .nil
  | _, _, .cons h t => .cons (Dp.same s _ _ h) (DpAll.same s _ _ t)
end
theorem DpAll.snoc {K : PySem.W.Frag} {H : Hp} {v : V} {d : PyData} (h : Dp K H v d) : ∀ (vs : List V) (ds : List PyData), DpAll K H vs ds → DpAll K H (vs ++ [v]) (ds ++ [d])
  | _, _, .nil => .cons h .nil
  | _, _, .cons g t => .cons g (DpAll.snoc h _ _ t)
theorem Row.nil {α : Type} {f : α → HO} {H : Hp} : Row f H [] [] := ⟨rfl, fun i a p h => nomatch h⟩
theorem Row.cons {α : Type} {f : α → HO} {H : Hp} {a : Addr} {p : α} {as : List Addr} {ps : List α} (h : H a = some (f p)) (r : Row f H as ps) : Row f H (a :: as) (p :: ps) := by
  refine ⟨by rw [List.length_cons, List.length_cons, r.1], fun i b q e1 e2 => ?_⟩
  match i with
  | 0 => cases e1; cases e2; exact h
  | i + 1 => exact r.2 i b q e1 e2
def hide (p : Addr) (M : Hp) : Hp := fun b => if b = p then none else M b
theorem hide_same {p : Addr} {M : Hp} : Same (hide p M) M := fun b u e => by
  unfold hide at e
  split at e
  · cases e
  · exact e
theorem hide_up {p : Addr} {M M' : Hp} (s : Sbut p M M') : Same (hide p M) (hide p M') := fun b u e => by
  unfold hide at e ⊢
  split at e
  · cases e
  · rename_i n
    rw [if_neg n]
    exact s b u e n
theorem hide_in {p : Addr} {M M' : Hp} (n : M p = none) (s : Same M M') : Same M (hide p M') := fun b u e => by
  unfold hide
  rw [if_neg (ne_of_none e n)]
  exact s b u e
theorem Keep.free {d c p : Addr} {H H' : Hp} (a : Keep d c H H') (n : p ≠ d ∧ p ≠ c) (h : H' p = none) : H p = none := by
  cases e : H p with
  | none => rfl
  | some o =>
    rw [a p o e n.1 n.2] at h
    cases h
theorem hide_at {p b : Addr} {M : Hp} {o : HO} (n : b ≠ p) (e : M b = some o) : hide p M b = some o := by
  unfold hide
  rw [if_neg n]
  exact e
theorem flat_len {n : Nat} {v : V} : (List.replicate n [v]).flatten.length = n := by
  induction n with
  | zero => rfl
  | succ n ih => rw [List.replicate_succ, List.flatten_cons, List.length_append, ih]; show 1 + n = n + 1; omega
theorem sub_same {d c : Addr} {H H' : Hp} (s : Same H H') : Same (mask d c H) (mask d c H') := mask_keep fun b o e _ _ => s b o e
theorem Keep.of {d c : Addr} {H H' : Hp} (s : Same H H') : Keep d c H H' := fun b o e _ _ => s b o e
end Rs
namespace GQ
open PySem PySem.Spec PySem.SeqAt
open AutoSeq1 (wpAny_loadPart')
open MeetsSeq MeetsSeq2 MeetsSeq3 SeqRoads2
section
variable {prog : Program} {w : World} {A : Around} {R : Result → Shared → Prop}
/-- != of two lists whose items are found to be equal one by one -/
theorem ne_loopG (l b : Addr) (N : Nat) (I : Nat → Shared → Prop) (look : ListI prog w A (fun e s' => R (.error e) s') l b N I) (done : ∀ s, I N s → R (.ok (.ret (.bool false))) s) :
    ∀ (k i : Nat), N - i = k → i ≤ N → ∀ s, I i s → wpAny (model prog w) A.in1 (Builtin.«list.__eq__.loop» ⟨[.ref l, .ref b, rawInt i, rawInt 3], []⟩) (FinOf prog w A R) (fun e s' => R (.error e) s') s := by
  intro k
  induction k with
  | zero =>
    intro i ek le s now
    obtain ⟨xs, ys, n1, n2, atL, atB, z1, z2, _⟩ := look _ _ now
    obtain rfl : i = N := by omega
    have ends := done s now
    obtain ⟨hp, g, d, tk, os⟩ := s
    have no1 : xs[((i : Nat) : Int).toNat]? = none := by simp; omega
    have no2 : ys[((i : Nat) : Int).toNat]? = none := by simp; omega
    wp_walk using wpAny_loadPart' atL, wpAny_loadPart' atB
    rw [no1, no2]
    wp_walk using wpAny_loadPart' atL, wpAny_loadPart' atB
    show R (.ok (.ret (.bool (xs.size != ys.size)))) _
    rw [z1, z2]
    simpa using ends
  | succ k ih =>
    intro i ek le s now
    obtain ⟨xs, ys, n1, n2, atL, atB, z1, z2, step⟩ := look _ _ now
    have lt1 : i < xs.size := by omega
    have lt2 : i < ys.size := by omega
    have this_ := step lt1 lt2
    obtain ⟨hp, g, d, tk, os⟩ := s
    have is1 : xs[((i : Nat) : Int).toNat]? = some xs[i] := by simp [lt1]
    have is2 : ys[((i : Nat) : Int).toNat]? = some ys[i] := by simp [lt2]
    have next : ((i : Int) + 1) = ((i + 1 : Nat) : Int) := by omega
    wp_walk using wpAny_loadPart' atL, wpAny_loadPart' atB
    rw [is1, is2]
    refine wpAny_bind (wpAny_mono this_ ?_ fun _ _ z => z)
    rintro r s2 ⟨rfl, now2⟩
    have more := ih (i + 1) (by omega) (by omega) s2 now2
    obtain ⟨hp2, g2, d2, tk2, os2⟩ := s2
    wp_walk
    rw [next]
    refine ⟨plainId_quiet plain_eq_loop _, codeAny_builtin entry_eq_loop ?_⟩
    rw [Around.under_plainId plain_eq_loop _]
    exact more
theorem list_neG (l b : Addr) (N : Nat) (I : Nat → Shared → Prop) (look : ListI prog w A (fun e s' => R (.error e) s') l b N I) (done : ∀ s, I N s → R (.ok (.ret (.bool false))) s) {s : Shared} (now : I 0 s) :
    wpAny (model prog w) A.in1 (Builtin.«list.__ne__» ⟨[.ref l, .ref b], []⟩) (FinOf prog w A R) (fun e s' => R (.error e) s') s := by
  obtain ⟨xs, ys, n1, n2, atL, atB, z1, z2, _⟩ := look _ _ now
  have more := ne_loopG (A := A) (R := R) l b N I look done _ 0 rfl (Nat.zero_le _) s now
  obtain ⟨hp, g, d, tk, os⟩ := s
  have isL := AutoSeq1.sub_list_list
  have alike : ¬ (xs.size != ys.size) = true := by simp [z1, z2]
  wp_walk using wpAny_loadPart' atL, wpAny_loadPart' atB
  refine ⟨plainId_quiet plain_eq_loop _, codeAny_builtin entry_eq_loop ?_⟩
  rw [Around.under_plainId plain_eq_loop _]
  exact more
end
section
variable {prog : Program} {w : World} {A : Around} {E : Value → Shared → Prop} {s : Shared}
theorem rc_neG {l b : Addr} {N : Nat} {Q : Value → Shared → Prop} (hu : A.units < cLine) (I : Nat → Shared → Prop) (look : ListI prog w A E l b N I) (done : ∀ s, I N s → Q (.bool false) s) (now : I 0 s) :
    wpAny (model prog w) A (richCompare .NotEq (.ref l) (.ref b)) Q E s := by
  obtain ⟨xs, ys, n1, n2, atL, atB, _, _, _⟩ := look _ _ now
  refine wpAny_richCompare_same_room (op := .NotEq) ⟨_, atL, rfl⟩ ⟨_, atB, rfl⟩ F.slot_list_ne ?_ hu
  refine call_here F.slot_list_ne ⟨_, atL, rfl⟩ F.entry_list_ne (F.args_list_ne_2 _ _) ?_
  exact list_neG (R := wants (fun v s' => v ≠ .notImplemented ∧ Q v s') E) l b N I look (fun s' q => ⟨nofun, done s' q⟩) now
end
end GQ
namespace Rt
open PySem PySem.Spec L2
open PyProof.Rows hiding St
section
variable {X : Cx} {n : Nat} {D : Eqv}
/-- xs != ys, both of items that are equal one by one -/
def rNeG (D : Eqv) : R2 := fun x y H Q => D x y H ∧ ∀ H', Ext H H' → Q (.bl false) H'
theorem op_neG (mono : Mon D) (h : EqG X n D) (room : Room (n + 1) X.A) : OpR X (compareOp .NotEq) (rNeG (DList D)) := by
  rintro pins s σ H x y v u Q I rx ry ⟨⟨a, b, xs, ys, rfl, rfl, ha, hb, p⟩, k⟩
  cases rx
  cases ry
  show wpAny (model X.prog X.w) X.A (richCompare .NotEq _ _) (EP X pins σ Q) X.xe s
  have sb : Sub X (n + 1) X.A := ⟨room, rfl⟩
  refine GQ.rc_neG (N := xs.length) room.units0 (fun _ s' => LoopI X pins σ H s') ?_ ?_ ⟨H, I, Ext.rfl'⟩
  · rintro i s' ⟨H1, I1, e1⟩
    obtain ⟨_, its, m1, r1, at1⟩ := I1.hok a _ (e1 _ _ ha)
    obtain ⟨_, jts, m2, r2, at2⟩ := I1.hok b _ (e1 _ _ hb)
    refine ⟨its.toArray, jts.toArray, m1, m2, at1, at2, ?_, ?_, fun h1 h2 => turnG mono h sb p r1 r2 i h1 h2 s' ⟨H1, I1, e1⟩⟩
    · rw [List.size_toArray, ← r1.length]
    · rw [List.size_toArray, ← r2.length, ← p.1]
  · rintro s' ⟨H1, I1, e1⟩
    exact ⟨.bl false, H1, I1, rfl, k H1 e1⟩
end
end Rt
namespace K07
open PySem PySem.Spec L2 Rt
open PyProof.Rows hiding St
open LamX
def lamT (P1 : Addr) : List (Addr × Str) := [(P1, ("law" : Str) ++ ".<locals>." ++ "<lambda>")]
theorem lam_one {P1 : Addr} : ∀ p ∈ lamT P1, p.1 = P1 → p.2 = ("law" : Str) ++ ".<locals>." ++ "<lambda>" := fun p m e => by
  cases List.mem_singleton.mp m
  rfl
theorem code_not {c : Addr} {q : Str} {o : HO} (h : ∀ φ, o ≠ .ext φ) : CodeO c q ≠ o := fun z => by
  unfold CodeO at z
  exact h _ z.symm
theorem tabs_keep {T : List (Addr × Str)} {H H' : Hp} {d c : Addr} (t : Tabs T H) (S : Src H d c) (k : Keep d c H H') : Tabs T H' := fun p hp => by
  obtain ⟨ps, h1, h2, h3⟩ := t p hp
  obtain ⟨ks, l, m, n, q1, q2⟩ := S.ex
  refine ⟨ps, k _ _ h1 (ne_of h1 q1 (by intro z; cases z)) (ne_of h1 q2 (by intro z; cases z)), h2, fun pos cv hc => ?_⟩
  obtain ⟨c0, e1, e2⟩ := h3 pos cv hc
  exact ⟨c0, e1, k _ _ e2 (ne_of e2 q1 (code_not (by nofun))) (ne_of e2 q2 (code_not (by nofun)))⟩
theorem src_ext {H H' : Hp} {d c : Addr} (S : Src H d c) (e : ExtN H H') : Src H' d c := by
  obtain ⟨ks, l, m, n, q1, q2⟩ := S.ex
  exact ⟨ks, l, m, n, e _ _ q1 (fun ps z => by cases z), e _ _ q2 (fun ps z => by cases z)⟩
theorem mask_ext {H H' : Hp} {d c : Addr} (e : ExtN H H') : ExtN (mask d c H) (mask d c H') := fun b u z n => by
  have z1 := mask_same _ _ z
  by_cases h : b ≠ d ∧ b ≠ c
  · exact mask_at h (e _ _ z1 n)
  · exfalso
    unfold mask at z
    simp at z h
    by_cases hb : b = d
    · simp [hb] at z
    · simp [h hb] at z
theorem row_ext {α : Type} {f : α → HO} {H H' : Hp} {as : List Addr} {ps : List α} (r : Row f H as ps) (e : ExtN H H') (n : ∀ a q, f a ≠ .tbl q) : Row f H' as ps := ⟨r.1, fun i a p h1 h2 => e _ _ (r.2 i a p h1 h2) (fun q => n p q)⟩
theorem LNet.ext {H H' : Hp} {n : Addr} {ps : List Pt} {rs : List Rl} (h : LNet H n ps rs) (e : ExtN H H') : LNet H' n ps rs := by
  obtain ⟨PA, RA, as, bs, h1, h2, h3, h4, h5⟩ := h.ex
  exact ⟨PA, RA, as, bs, e _ _ h1 (by nofun), e _ _ h2 (by nofun), e _ _ h3 (by nofun), row_ext h4 e (by nofun), row_ext h5 e (by nofun)⟩
theorem NetAt.ext {H H' : Hp} {C a : Addr} {ps : List Pt} {rs : List Rl} (h : NetAt H C a ps rs) (e : ExtN H H') : NetAt H' C a ps rs := by
  obtain ⟨dx, PA, RA, DA, as, bs, h1, h2, h3, h4, h5, h6⟩ := h.ex
  exact ⟨dx, PA, RA, DA, as, bs, e _ _ h1 (by nofun), e _ _ h2 (by nofun), e _ _ h3 (by nofun), e _ _ h4 (by nofun), row_ext h5 e (by nofun), row_ext h6 e (by nofun)⟩
theorem NetAt.msk {H : Hp} {C a d c : Addr} {ps : List Pt} {rs : List Rl} (h : NetAt H C a ps rs) (S : Src H d c) (p0 : 0 < ps.length) : NetAt (mask d c H) C a ps rs := by
  obtain ⟨dx, PA, RA, DA, as, bs, h1, h2, h3, h4, h5, h6⟩ := h.ex
  obtain ⟨ks, l, m, t, q1, q2⟩ := S.ex
  have tup : ∀ {b : Addr} {xs : List V}, H b = some (.tup xs) → K07.mask d c H b = some (.tup xs) := fun e => mask_at (S.nd e) e
  refine ⟨dx, PA, RA, DA, as, bs, mask_at ⟨ne_of h1 q1 (by intro z; cases z), ne_of h1 q2 (by intro z; cases z)⟩ h1, tup h2, tup h3, mask_at ⟨ne_of h4 q1 ?_, ne_of h4 q2 (by intro z; cases z)⟩ h4, ⟨h5.1, fun i a p e1 e2 => tup (h5.2 i a p e1 e2)⟩, ⟨h6.1, fun i a p e1 e2 => tup (h6.2 i a p e1 e2)⟩⟩
  intro z
  cases ps with
  | nil => exact absurd p0 (by decide)
  | cons p ps =>
    have z1 : (Sum.inr p.1, V.int (0 : Nat)) :: placesFrom 1 (namesOf ps) = srcK c l m t := HO.dK.inj z
    cases congrArg Prod.snd (List.cons.inj z1).1
/-- what stands all through a lap -/
structure A3 (C d c n x P1 : Addr) (ps : List Pt) (rs : List Rl) (H : Hp) : Prop where
  S : Src H d c
  tabs : Tabs (lamT P1) H
  net : LNet (mask d c H) n ps rs
  made : NetAt (mask d c H) C x ps rs
theorem A3.keep {C d c n x P1 : Addr} {ps : List Pt} {rs : List Rl} {H H' : Hp} (a : A3 C d c n x P1 ps rs H) (k : Keep d c H H') (S : Src H' d c) : A3 C d c n x P1 ps rs H' := ⟨S, tabs_keep a.tabs a.S k, a.net.same (mask_keep k), a.made.same (mask_keep k)⟩
theorem A3.same {C d c n x P1 : Addr} {ps : List Pt} {rs : List Rl} {H H' : Hp} (a : A3 C d c n x P1 ps rs H) (s : Same H H') : A3 C d c n x P1 ps rs H' := a.keep (Keep.of s) (a.S.same s)
theorem A3.new {C d c n x P1 p : Addr} {o : HO} {ps : List Pt} {rs : List Rl} {H : Hp} (a : A3 C d c n x P1 ps rs H) (h : H p = none) : A3 C d c n x P1 ps rs (upd H p o) := a.same (same_new h)
theorem A3.ext {C d c n x P1 : Addr} {ps : List Pt} {rs : List Rl} {H H' : Hp} (a : A3 C d c n x P1 ps rs H) (e : ExtN H H') (t : Tabs (lamT P1) H') : A3 C d c n x P1 ps rs H' := ⟨src_ext a.S e, t, a.net.ext (mask_ext e), a.made.ext (mask_ext e)⟩
theorem A3.lnet {C d c n x P1 : Addr} {ps : List Pt} {rs : List Rl} {H : Hp} (a : A3 C d c n x P1 ps rs H) : LNet H n ps rs := a.net.same mask_same
theorem A3.at_ {C d c n x P1 : Addr} {ps : List Pt} {rs : List Rl} {H : Hp} (a : A3 C d c n x P1 ps rs H) : NetAt H C x ps rs := a.made.same mask_same
/-- what is told of a net -/
structure Pu (ps : List Pt) (rs : List Rl) : Prop where
  good : Good ps rs
  p0 : 0 < ps.length
  pm : ps.length ≤ 6
  rm : rs.length ≤ 10
  pt : ∀ p, p ∈ ps → 1 ≤ p.2.2 ∧ p.2.2 ≤ 60 ∧ p.2.2.toNat ∣ 1562701140
  rl : ∀ r, r ∈ rs → r.2.2.natAbs ≤ 10 ^ 30
theorem Pu.of_drawn {ps : List Pt} {rs : List Rl} (h : Drawn ps rs 6 10) : Pu ps rs := ⟨h.good, h.p0, h.pm, h.rm, fun p m => ⟨(h.pt p m).s1, by have := (h.pt p m).s12; omega, Nat.dvd_trans (h.pt p m).dv (by decide)⟩, fun r m => by
  have := (h.rl r m).l1
  have := (h.rl r m).l2
  omega⟩
theorem Good.ckp {ps : List Pt} {rs : List Rl} (h : Good ps rs) {r : Rl} (m : r ∈ rs) : ∃ (j : Nat) (p : Pt), ps[j]? = some p ∧ p.1 = r.2.1 ∧ ck ps r.2.1 = p.2 := by
  obtain ⟨p, mp, ep⟩ := List.mem_map.mp (h.ends r m).2
  obtain ⟨j, hj⟩ := List.getElem?_of_mem mp
  exact ⟨j, p, hj, ep, by rw [← ep]; exact ck_at h.nd hj⟩
theorem Pu.pos {ps : List Pt} {rs : List Rl} (h : Pu ps rs) : ∀ r, r ∈ rs → 0 < (ck ps r.2.1).2 := fun r m => by
  obtain ⟨j, p, hj, _, e⟩ := h.good.ckp m
  rw [e]
  have := (h.pt p (List.mem_of_getElem? hj)).1
  omega
theorem Pu.le60 {ps : List Pt} {rs : List Rl} (h : Pu ps rs) : ∀ r, r ∈ rs → (ck ps r.2.1).2 ≤ 60 := fun r m => by
  obtain ⟨j, p, hj, _, e⟩ := h.good.ckp m
  rw [e]
  exact (h.pt p (List.mem_of_getElem? hj)).2.1
theorem dvd_lcmI {ps : List Pt} {p : Pt} (m : p ∈ ps) (p1 : 1 ≤ p.2.2) : p.2.2 ∣ (lcmOf ps : Int) := by
  have := Int.natCast_dvd_natCast.mpr (dvd_lcmOf m)
  rwa [Int.toNat_of_nonneg (by omega)] at this
theorem Pu.dv {ps : List Pt} {rs : List Rl} (h : Pu ps rs) : ∀ r, r ∈ rs → (ck ps r.2.1).2 ∣ ((3 : Int) * (lcmOf ps : Int)) := fun r m => by
  obtain ⟨j, p, hj, _, e⟩ := h.good.ckp m
  rw [e]
  have mp := List.mem_of_getElem? hj
  exact Int.dvd_trans (dvd_lcmI mp (h.pt p mp).1) (Int.dvd_mul_left _ _)
theorem upv_near {f s x : Int} (h : 0 < s) (le : s ≤ 60) : (upv f s x).natAbs ≤ x.natAbs + 60 := by
  have := upv_le (f := f) (x := x) h
  have := upv_lt (f := f) (x := x) h
  omega
theorem ledN_bound {ps : List Pt} {rs : List Rl} {B : Nat} (pos : ∀ r, r ∈ rs → 0 < (ck ps r.2.1).2) (le : ∀ r, r ∈ rs → (ck ps r.2.1).2 ≤ 60) (rl : ∀ r, r ∈ rs → r.2.2.natAbs ≤ B) : ∀ (xs : List V) (v : Int), (ledN ps rs v xs).natAbs ≤ v.natAbs + xs.length * (B + 60)
  | [], v => by show v.natAbs ≤ _; omega
  | z :: xs, v => by
    rw [List.length_cons, Nat.add_mul, Nat.one_mul]
    cases z with
    | int i =>
      show (match rs[i.toNat]? with
        | some r => ledN ps rs (upv (ck ps r.2.1).1 (ck ps r.2.1).2 (v + r.2.2)) xs
        | none => v).natAbs ≤ _
      cases h : rs[i.toNat]? with
      | none => show v.natAbs ≤ _; omega
      | some r =>
        have m := List.mem_of_getElem? h
        have q := ledN_bound pos le rl xs (upv (ck ps r.2.1).1 (ck ps r.2.1).2 (v + r.2.2))
        have b := upv_near (f := (ck ps r.2.1).1) (x := v + r.2.2) (pos r m) (le r m)
        have c := rl r m
        refine Nat.le_trans q ?_
        omega
    | _ => show v.natAbs ≤ _; omega
theorem Pu.small {ps : List Pt} {rs : List Rl} (h : Pu ps rs) {xs : List V} (few : xs.length ≤ 210) {v : Int} (hv : v.natAbs ≤ 10 ^ 39 + 100) : (ledN ps rs v xs).natAbs < 10 ^ 40 := by
  have b := ledN_bound h.pos h.le60 h.rl xs v
  have m := Nat.mul_le_mul_right (10 ^ 30 + 60) few
  refine Nat.lt_of_le_of_lt (Nat.le_trans b (Nat.add_le_add hv m)) (by decide)
end K07
namespace K07
open PySem PySem.Spec L2 Rt
open PyProof.Rows hiding St
open Rs (Sm Nice)
theorem sum_le {ds : List PyData} (h : ∀ d, d ∈ ds → Sm d) : ((PyData.shownAll ds).map (·.length)).sum ≤ 450 * ds.length ∧ (PyData.shownAll ds).length = ds.length ∧ PyData.showableAll ds = true ∧ PyData.depthAll ds ≤ 2 := by
  induction ds with
  | nil => exact ⟨by simp [PyData.shownAll], by simp [PyData.shownAll], by simp [PyData.showableAll], by simp [PyData.depthAll]⟩
  | cons d ds ih =>
    obtain ⟨i1, i2, i3, i4⟩ := ih fun x m => h x (List.mem_cons_of_mem _ m)
    have s := h d List.mem_cons_self
    have s1 := s.ln
    have s2 := s.dp
    refine ⟨?_, ?_, ?_, ?_⟩
    · simp only [PyData.shownAll, List.map_cons, List.sum_cons, List.length_cons]
      omega
    · simp only [PyData.shownAll, List.length_cons, i2]
    · simp only [PyData.showableAll, s.sh, i3, Bool.and_self]
    · simp only [PyData.depthAll]
      omega
theorem nice_tup {ds : List PyData} (h : ∀ d, d ∈ ds → Sm d) (le : ds.length ≤ 12) : Nice (.tuple ds) := by
  obtain ⟨i1, i2, i3, i4⟩ := sum_le h
  refine ⟨by simpa only [PyData.showable] using i3, by simp only [PyData.depth]; omega, ?_⟩
  simp only [PyData.shown]
  have := tupleText_len_le (PyData.shownAll ds)
  omega
theorem nice_lst {ds : List PyData} (h : ∀ d, d ∈ ds → Sm d) (le : ds.length ≤ 12) : Nice (.list ds) := by
  obtain ⟨i1, i2, i3, i4⟩ := sum_le h
  refine ⟨by simpa only [PyData.showable] using i3, by simp only [PyData.depth]; omega, ?_⟩
  simp only [PyData.shown]
  have := listText_len_le (PyData.shownAll ds)
  omega
theorem sm_str {x : Str} (h1 : (PyData.str x).showable = true) (h2 : (PyData.str x).depth ≤ 2) (h3 : (PyData.str x).shown.length ≤ 100) : Sm (.str x) := ⟨h1, h2, by omega⟩
end K07
namespace K07
open PySem PySem.Spec L2 Rt
open PyProof.Rows hiding St
open LamX

abbrev sTold : Stmt := top 45
abbrev sLaw : Stmt := top 48
theorem scTold : FnScope ["call"] ["call"] (defScope sTold) := ⟨rfl, rfl, rfl, by decide +kernel, rfl, by decide +kernel, by decide +kernel⟩
structure ExcN (K : PySem.W.Frag) (mg : Str → Option Value) (CW : Addr) : Prop where
  m : mg "NoWay" = some (.ref CW)
  ww : PySem.W.exmOne K (.ref CW) (.ref CW) = some true
def spLaw (K : PySem.W.Frag) (P1 : Addr) : Sp := fun vs H Q _ => ∃ (a : Addr) (ns : List Int), vs = [.ref a] ∧ SqL K H a (ns.map V.int) ∧ ns.length ≤ 63 ∧ Tabs (lamT P1) H ∧ ∀ H', Q (.bl true) H'
theorem st_step {f : L2.St → Hp → Prop} {σ σ' : L2.St} {H : Hp} (h : σ = σ') (k : f σ' H) : f σ H := by
  subst h
  exact k
theorem A3.re {C d c n x y P1 : Addr} {ps : List Pt} {rs : List Rl} {H : Hp} (a : A3 C d c n x P1 ps rs H) (h : NetAt H C y ps rs) (p0 : 0 < ps.length) : A3 C d c n y P1 ps rs H := ⟨a.S, a.tabs, a.net, h.msk a.S p0⟩
theorem Good.bare {ps : List Pt} {rs : List Rl} (h : Good ps rs) : Good ps [] := ⟨h.ok, h.nd, h.few, fun _ m => (nomatch m), by decide⟩
theorem row_nil {α : Type} {f : α → HO} {H : Hp} : Row f H [] [] := ⟨rfl, fun i a p h => nomatch h⟩
theorem msk_ne {H : Hp} {d c b : Addr} {o : HO} (h : mask d c H b = some o) : b ≠ d ∧ b ≠ c := by
  constructor
  · rintro rfl
    unfold mask at h
    simp at h
  · rintro rfl
    unfold mask at h
    simp at h
theorem Good.more {ps : List Pt} {rs : List Rl} (h : Good ps rs) {x : Str} (m : x ∈ namesOf ps) (few : rs.length ≤ 10) : Good ps (rs ++ [(x, x, 0)]) := ⟨h.ok, h.nd, h.few, fun r hr => by
  rcases List.mem_append.mp hr with q | q
  · exact h.ends r q
  · cases List.mem_singleton.mp q
    exact ⟨m, m⟩, by rw [List.length_append]; simp; omega⟩
theorem erase_last {α : Type} {xs : List α} {x : α} : (xs ++ [x]).eraseIdx xs.length = xs := by
  rw [List.eraseIdx_append_of_length_le (Nat.le_refl _), Nat.sub_self]
  simp
theorem ne_self {x : V} : (!decide (x = x)) = false := by simp
theorem sm_told : Rs.Sm (.str "told") := ⟨by decide +kernel, by decide +kernel, by decide +kernel⟩
theorem sm_ref : Rs.Sm (.str "refused") := ⟨by decide +kernel, by decide +kernel, by decide +kernel⟩
theorem wend_in {ps : List Pt} {rs : List Rl} (ends : ∀ r, r ∈ rs → r.1 ∈ namesOf ps ∧ r.2.1 ∈ namesOf ps) : ∀ {xs : List V} {x y : Str}, wend rs x xs = some y → x ∈ namesOf ps → y ∈ namesOf ps
  | [], x, y, e, m => by
    have e : some x = some y := e
    cases e
    exact m
  | z :: xs, x, y, e, m => by
    obtain ⟨i0, r0, rfl, q0, hr0, er0, e2⟩ := wend_step e
    exact wend_in ends e2 (ends r0 (List.mem_of_getElem? hr0)).2
open Classical in
noncomputable def zOf (ps : List Pt) (xs : List Int) (x : Str) : Int := if h : ∃ (i : Nat) (v : Int), (namesOf ps)[i]? = some x ∧ xs[i]? = some v then h.choose_spec.choose else 0
theorem zAt {ps : List Pt} {xs : List Int} {x : Str} {i : Nat} {v : Int} (nd : (namesOf ps).Nodup) (h1 : (namesOf ps)[i]? = some x) (h2 : xs[i]? = some v) : zOf ps xs x = v := by
  have h : ∃ (i : Nat) (v : Int), (namesOf ps)[i]? = some x ∧ xs[i]? = some v := ⟨i, v, h1, h2⟩
  unfold zOf
  rw [dif_pos h]
  obtain ⟨g1, g2⟩ := h.choose_spec.choose_spec
  revert g1 g2
  generalize h.choose_spec.choose = v'
  generalize h.choose = i'
  intro g1 g2
  obtain ⟨a1, a2⟩ := List.getElem?_eq_some_iff.mp h1
  obtain ⟨b1, b2⟩ := List.getElem?_eq_some_iff.mp g1
  have ij := (List.getElem_inj nd).mp (a2.trans b2.symm)
  subst ij
  exact Option.some.inj (g2.symm.trans h2)
theorem int_of_map {xs : List Int} {j : Nat} {a : Int} (h : (xs.map V.int)[j]? = some (.int a)) : xs[j]? = some a := by
  rw [List.getElem?_map] at h
  cases e : xs[j]? with
  | none => rw [e] at h; cases h
  | some b => rw [e] at h; cases h; rfl
theorem name_at {ps : List Pt} {j : Nat} {p : Pt} (h : ps[j]? = some p) : (namesOf ps)[j]? = some p.1 := by
  show (ps.map (·.1))[j]? = _
  rw [List.getElem?_map, h]
  rfl
theorem tab_below {ps : List Pt} {rs : List Rl} {xs : List Int} (pu : Pu ps rs) (tb : Tab ps rs xs) {ws : List V} {x y : Str} (e : wend rs x ws = some y) : ledN ps rs (zOf ps xs x) ws ≤ zOf ps xs y := by
  refine ledN_below pu.pos (fun r m => ?_) (fun r m => ?_) ws e (Int.le_refl _)
  · obtain ⟨j, p, hj, ep, ec⟩ := pu.good.ckp m
    obtain ⟨p', v, hp', hv, on⟩ := tb.on j (List.getElem?_eq_some_iff.mp hj).1
    cases hj.symm.trans hp'
    obtain ⟨b, hb, rfl⟩ := int_at hv
    rw [ec, ← ep, zAt pu.good.nd (name_at hj) hb]
    exact of_decide_eq_true on
  · obtain ⟨k, hk⟩ := List.getElem?_of_mem m
    obtain ⟨r', a, b, hr', ⟨i, j, h1, h2, h3, h4⟩, le⟩ := tb.keep k (List.getElem?_eq_some_iff.mp hk).1
    cases hk.symm.trans hr'
    rw [zAt pu.good.nd h1 (int_of_map h3), zAt pu.good.nd h2 (int_of_map h4)]
    exact le
theorem row_cons {α : Type} {f : α → HO} {H : Hp} {a : Addr} {p : α} {as : List Addr} {ps : List α} (h : H a = some (f p)) (r : Row f H as ps) : Row f H (a :: as) (p :: ps) := by
  refine ⟨by rw [List.length_cons, List.length_cons, r.1], fun i b q e1 e2 => ?_⟩
  match i with
  | 0 => cases e1; cases e2; exact h
  | i + 1 => exact r.2 i b q e1 e2
def ps0 : List Pt := [("a", 0, 1), ("b", 1, 2), ("c", 0, 3)]
def rs1 : List Rl := [("a", "b", 2), ("b", "c", 1), ("c", "a", -4)]
def ps9 : List Pt := [("a", 0, 7)]
def rs9 : List Rl := [("a", "a", 1)]
theorem word1 {x : Str} {c : Nat} (h : x.cps.toList = [c]) (m : c ∈ LET.cps.toList) : Word x := by
  refine ⟨?_, ⟨c, [], h, m⟩, fun y hy => ?_⟩
  · show x.cps.size ≤ 12
    rw [← Array.length_toList, h]
    show 1 ≤ 12
    decide
  · rw [h] at hy
    cases List.mem_singleton.mp hy
    exact let_sgn _ m
theorem good1 : Good ps0 rs1 := by
  refine ⟨fun x m => ?_, by decide +kernel, by decide, fun r m => ?_, by decide⟩
  · simp only [ps0, List.mem_cons, List.not_mem_nil, or_false] at m
    rcases m with rfl | rfl | rfl
    · exact ⟨word1 (c := 97) (by decide +kernel) (by decide +kernel), by decide, by decide⟩
    · exact ⟨word1 (c := 98) (by decide +kernel) (by decide +kernel), by decide, by decide⟩
    · exact ⟨word1 (c := 99) (by decide +kernel) (by decide +kernel), by decide, by decide⟩
  · simp only [rs1, List.mem_cons, List.not_mem_nil, or_false] at m
    rcases m with rfl | rfl | rfl <;> decide +kernel
theorem good9 : Good ps9 rs9 := by
  refine ⟨fun x m => ?_, by decide +kernel, by decide, fun r m => ?_, by decide⟩
  · simp only [ps9, List.mem_cons, List.not_mem_nil, or_false] at m
    subst m
    exact ⟨word1 (c := 97) (by decide +kernel) (by decide +kernel), by decide, by decide⟩
  · simp only [rs9, List.mem_cons, List.not_mem_nil, or_false] at m
    subst m
    decide +kernel
theorem flat1 {x : V} : ∀ n : Nat, (List.replicate n [x]).flatten = List.replicate n x
  | 0 => rfl
  | n + 1 => by
    rw [List.replicate_succ, List.replicate_succ, List.flatten_cons, flat1 n]
    rfl
theorem wend9 : ∀ n : Nat, wend rs9 "a" (List.replicate n (V.int 0)) = some "a"
  | 0 => rfl
  | n + 1 => by
    rw [List.replicate_succ]
    show (if (0 : Int) ≤ 0 then match rs9[(0 : Int).toNat]? with
      | some r => if r.1 = "a" then wend rs9 r.2.1 (List.replicate n (V.int 0)) else none
      | none => none
      else none) = _
    rw [if_pos (by decide)]
    show (if ("a" : Str) = "a" then wend rs9 "a" (List.replicate n (V.int 0)) else none) = _
    rw [if_pos rfl, wend9 n]
theorem led9 : ∀ (n : Nat) (k : Int), ledN ps9 rs9 (7 * k) (List.replicate n (V.int 0)) = 7 * (k + n)
  | 0, k => by
    show 7 * k = 7 * (k + ((0 : Nat) : Int))
    omega
  | n + 1, k => by
    rw [List.replicate_succ]
    show ledN ps9 rs9 (upv (ck ps9 "a").1 (ck ps9 "a").2 (7 * k + 1)) (List.replicate n (V.int 0)) = _
    rw [show ck ps9 "a" = (0, 7) by decide +kernel]
    rw [show upv (0 : Int) 7 (7 * k + 1) = 7 * (k + 1) by unfold upv; omega]
    rw [led9 n (k + 1)]
    omega

section
variable {P : Program} {w : World} {K : PySem.W.Frag} {mg : Str → Option Value} {base : Heap} {f C CW c1 P1 : Addr} {fd : FuncData}
theorem scLaw : FnScope ["script", "source", "lap", "net", "made", "period", "last", "turn", "name", "walk", "end", "clock", "v", "due", "value", "told", "is_due", "table", "high", "points", "rules", "long", "point"] ["script"] (defScope sLaw) := ⟨rfl, rfl, rfl, by decide +kernel, rfl, by decide +kernel, by decide +kernel⟩
theorem ok_law (F : Fun K "law" "law" sLaw f fd) (ca : CodeAt K f c1) (TB : TabB base mg c1 P1) (T : Lw mg) (cn : ClsN K C) (EF : ExcN K mg CW) (aTold : At K mg "_law_told" sTold) (mk : Mkr P w K mg base 4 C "Network" (spInit C)) (cSrc : Cb P w K mg base 1 "_law_source" (spSource K)) (cFar : Cb P w K mg base 4 "_law_far_net" spFar) (cNet : Cb P w K mg base 4 "_law_net" spNet) (cPer : Cb P w K mg base 1 "_law_period" spPeriod)
    (cWR : Cb P w K mg base 6 "with_rules" (spWR C)) (cWO : Cb P w K mg base 6 "without_rule" (spWO C)) (cO : Cb P w K mg base 2 "_law_of" spOf) (cP : Cb P w K mg base 1 "_law_pick" spPick) (cW : Cb P w K mg base 3 "_law_walk" spLWalk) (cCl : Cb P w K mg base 2 "_law_clock_of" spClockOf) (cU : Cb P w K mg base 1 "_law_up" spLUp)
    (cLl : Cb P w K mg base 3 "_law_led" spLLed) (cLed : Cb P w K mg base 5 "led" (spLed K C)) (cLedX : CfX P w K mg base 5 "led" (spLedX K C CW)) (cNr : Cb P w K mg base 2 "_law_near" (spLNear K)) (cIw : Cb P w K mg base 2 "_law_is_walk" (spIsWalk K)) (cRis : Cb P w K mg base 3 "_law_risen" spRisen) (cPl : Cb P w K mg base 1 "_law_place" spPlace) : FnG P w K mg base 9 f fd ["script"] (spLaw K P1) := by
  refine okGc F ca scLaw (fun vs H Q E h => ?_) (fun A outer s H vs Q E hg hr h => ?_)
  · obtain ⟨a, ns, rfl, _⟩ := h
    rfl
  · obtain ⟨a, ns, rfl, hS, hl, tabs, kend⟩ := h
    have hu64 := hr.units
    have hu : _ + 1 < cLine := hu_of hr
    refine ⟨_, (pss_cons (ps_set (i := 1) scLaw.nd rfl (.inr rfl) (pe_k cSrc hg hr (by decide) (by rfl) (pa_cons (pv 0) pa_nil)))
      (pss_cons (ps_for PassesOwn.never rfl (pi_range1 (by rfl) T.zrange (pa_cons pe_int pa_nil)) (pg_name (i := 2) scLaw.nd rfl (.inl rfl))
        (pss_cons (ps_set (i := 3) scLaw.nd rfl (.inl rfl) (pe_ifExp (pt_cmpR op_gt (pv 2) pe_int (nomark _)) (pe_k cNet hg hr (by decide) (by rfl) (pa_cons (pv 1) (pa_cons pe_int (pa_cons pe_int pa_nil)))) (pe_k cFar hg hr (by decide) (by rfl) (pa_cons (pv 1) (pa_cons pe_int (pa_cons pe_int pa_nil))))))
        (pss_cons (ps_asg (pe_tup (pa_cons (pe_mkr mk hr (by decide) (by rfl) (pa_cons (pe_dget hu (pv 3) pe_str (fun _ _ => rfl)) (pa_cons (pe_dget hu (pv 3) pe_str (fun _ _ => rfl)) pa_nil))) (pa_cons (pe_k cPer hg hr (by decide) (by rfl) (pa_cons (pv 3) pa_nil)) pa_nil))) (pg_tup (by rfl) (pgs_cons (pg_name (i := 4) scLaw.nd rfl (.inr rfl)) (pgs_cons (pg_name (i := 5) scLaw.nd rfl (.inl rfl)) pgs_nil))))
        (pss_cons (ps_set (i := 4) scLaw.nd rfl (.inr rfl) (pe_ifExp (pt_cmpR op_eq (pv 2) pe_int (nomark _)) (pe_k cWR hg hr (by decide) (by rfl) (pa_cons (pe_mkr mk hr (by decide) (by rfl) (pa_cons (pe_dget hu (pv 3) pe_str (fun _ _ => rfl)) (pa_cons (pe_lst pa_nil) pa_nil))) (pa_cons (pe_dget hu (pv 3) pe_str (fun _ _ => rfl)) pa_nil))) (pv 4)))
        (pss_cons (ps_if (pt_cmpR op_eq (pv 2) pe_int (nomark _)) (pss_cons (ps_set (i := 6) scLaw.nd rfl (.inl rfl) (pe_ix ix_tup (pe_k cO hg hr (by decide) (by rfl) (pa_cons (pv 1) (pa_cons (pe_dget hu (pv 3) pe_str (fun _ _ => rfl)) pa_nil))) pe_int (fun _ _ => rfl)))
          (pss_one (ps_set (i := 4) scLaw.nd rfl (.inr rfl) (pe_k cWO hg hr (by decide) (by rfl) (pa_cons (pe_k cWR hg hr (by decide) (by rfl) (pa_cons (pv 4) (pa_cons (pe_lst (pa_cons (pe_tup (pa_cons (pv 6) (pa_cons (pv 6) (pa_cons pe_int pa_nil)))) pa_nil)) pa_nil))) (pa_cons (pe_callB call_len_seq (by rfl) T.zlen (by decide +kernel) (pa_cons (pe_dget hu (pv 3) pe_str (fun _ _ => rfl)) pa_nil)) pa_nil)))))) pss_nil)
        (pss_one (ps_for PassesOwn.never rfl (pi_range1 (by rfl) T.zrange (pa_cons pe_int pa_nil)) (pg_name (i := 7) scLaw.nd rfl (.inl rfl))
          (pss_cons (ps_set (i := 8) scLaw.nd rfl (.inr rfl) (pe_ix ix_tup (pe_k cO hg hr (by decide) (by rfl) (pa_cons (pv 1) (pa_cons (pe_dget hu (pv 3) pe_str (fun _ _ => rfl)) pa_nil))) pe_int (fun _ _ => rfl)))
          (pss_cons (ps_asg (pe_k cW hg hr (by decide) (by rfl) (pa_cons (pv 1) (pa_cons (pv 3) (pa_cons (pv 8) (pa_cons pe_int pa_nil))))) (pg_tup (by rfl) (pgs_cons (pg_name (i := 9) scLaw.nd rfl (.inl rfl)) (pgs_cons (pg_name (i := 10) scLaw.nd rfl (.inl rfl)) pgs_nil))))
          (pss_cons (ps_set (i := 11) scLaw.nd rfl (.inl rfl) (pe_k cCl hg hr (by decide) (by rfl) (pa_cons (pv 3) (pa_cons (pv 8) pa_nil))))
          (pss_cons (ps_set (i := 12) scLaw.nd rfl (.inr rfl) (pe_k cU hg hr (by decide) (by rfl) (pa_cons (pv 11) (pa_cons (pe_k cO hg hr (by decide) (by rfl) (pa_cons (pv 1) (pa_cons (pe_lst (pa_cons (pe_op op_sub (pe_k cP hg hr (by decide) (by rfl) (pa_cons (pv 1) (pa_cons pe_int pa_nil))) pe_int) (pa_cons (pe_op op_pow pe_int pe_int) (pa_cons (pe_un un_neg (pe_op op_pow pe_int pe_int)) pa_nil)))) pa_nil))) pa_nil))))
          (pss_cons (ps_set (i := 13) scLaw.nd rfl (.inl rfl) (pe_k cLl hg hr (by decide) (by rfl) (pa_cons (pv 3) (pa_cons (pv 12) (pa_cons (pv 9) pa_nil)))))
          (pss_cons (ps_if (pt_cmpR op_ne (pe_callB (call_reprX hg hu64) (by rfl) T.zrepr (by decide +kernel) (pa_cons (pe_lst (pa_cons (pe_k cLed hg hr (by decide) (by rfl) (pa_cons (pv 4) (pa_cons (pv 8) (pa_cons (pv 12) (pa_cons (pv 9) pa_nil))))) (pa_cons (pe_k cLed hg hr (by decide) (by rfl) (pa_cons (pv 4) (pa_cons (pv 8) (pa_cons (pv 12) (pa_cons (pe_callTy call_tuple_of (by rfl) T.ztuple (by decide +kernel) (pa_cons (pv 9) pa_nil)) pa_nil))))) pa_nil))) pa_nil)) (pe_callB (call_reprX hg hu64) (by rfl) T.zrepr (by decide +kernel) (pa_cons (pe_lst (pa_cons (pv 13) (pa_cons (pv 13) pa_nil))) pa_nil)) (nomark _)) (pss_one (ps_ret pe_bl)) pss_nil)
          (pss_cons (ps_if (pt_cmpR op_ne (pe_k cLed hg hr (by decide) (by rfl) (pa_cons (pv 4) (pa_cons (pv 8) (pa_cons (pe_op op_add (pv 12) (pe_op op_mul pe_int (pv 5))) (pa_cons (pv 9) pa_nil))))) (pe_op op_add (pv 13) (pe_op op_mul pe_int (pv 5))) (nomark _)) (pss_one (ps_ret pe_bl)) pss_nil)
          (pss_cons (ps_if (pt_cmpR op_lt (pe_k cLed hg hr (by decide) (by rfl) (pa_cons (pv 4) (pa_cons (pv 8) (pa_cons (pe_op op_add (pv 12) (pe_ix ix_tup (pv 11) pe_int (fun _ _ => rfl))) (pa_cons (pv 9) pa_nil))))) (pv 13) (nomark _)) (pss_one (ps_ret pe_bl)) pss_nil)
          (pss_cons (ps_for PassesOwn.never rfl (pi_list (pe_k cNr hg hr (by decide) (by rfl) (pa_cons (pv 1) (pa_cons (pv 3) (pa_cons (pv 9) pa_nil))))) (pg_name (i := 14) scLaw.nd rfl (.inr rfl))
            (pss_cons (ps_par (i := 15) (j := 16) rfl scLaw.nd rfl rfl (by decide) rfl rfl (pa_cons (pe_tells (T := lamT P1) (k := 5) aTold (fun f fd F => F.binds fun _ _ _ _ _ _ us hl => match us, hl with | [_], _ => rfl) scTold rfl (.inl (by rfl)) (fun g cdg => told_givesT (by rfl) EF.m (by decide) (fun _ => rfl)) (by rfl) TB rfl List.mem_cons_self lam_one hr (by decide) (lamS_by (by show lamSB (defScope sLaw) _ = true; decide +kernel)) (fun A outer s H E f c' hr2 => pe_fx cLedX hr2 (by decide) (by rfl) (takes_of rfl rfl rfl rfl) (fun _ _ _ _ z => z) (pa_cons (pv 4) (pa_cons (pv 8) (pa_cons (pv 12) (pa_cons (pv 14) pa_nil)))))) (pa_cons (pe_k cIw hg hr (by decide) (by rfl) (pa_cons (pv 3) (pa_cons (pv 8) (pa_cons (pv 14) pa_nil)))) pa_nil)) (by rfl))
            (pss_one (ps_if (pt_cmpR op_ne (pe_callB (call_reprX hg hu64) (by rfl) T.zrepr (by decide +kernel) (pa_cons (pv 15) pa_nil)) (pe_callB (call_reprX hg hu64) (by rfl) T.zrepr (by decide +kernel) (pa_cons (pe_ifExp (pt_val (pv 16)) (pe_tup (pa_cons pe_str (pa_cons (pe_k cLl hg hr (by decide) (by rfl) (pa_cons (pv 3) (pa_cons (pv 12) (pa_cons (pv 14) pa_nil)))) pa_nil))) (pe_tup (pa_cons pe_str pa_nil))) pa_nil)) (nomark _)) (pss_one (ps_ret pe_bl)) pss_nil))))
          (pss_cons (ps_set (i := 17) scLaw.nd rfl (.inl rfl) (pe_ifExp (pt_cmpR op_gt (pv 2) pe_int (nomark _)) (pe_k cRis hg hr (by decide) (by rfl) (pa_cons (pv 3) (pa_cons (pe_lc (own := [("point", 22)]) (by rfl) scLaw.nd (pi_list (pe_dget hu (pv 3) pe_str (fun _ _ => rfl))) (blkOk_by (N := ["script", "source", "lap", "net", "made", "period", "last", "turn", "name", "walk", "end", "clock", "v", "due", "value", "told", "is_due", "table", "high", "points", "rules", "long", "point"]) (sc := defScope sLaw) (by decide +kernel)) (fun _ _ _ _ _ => (pg_name (i := 22) scLaw.nd rfl (.inl rfl))) (fun _ _ _ _ _ => pts_nil) (fun _ _ _ _ _ => (pe_k cP hg hr (by decide) (by rfl) (pa_cons (pv 1) (pa_cons pe_int pa_nil))))) pa_nil))) pe_non))
          (pss_one (ps_if (pt_cmpR op_notN (pv 17) pe_non (nomark _)) (pss_cons (ps_set (i := 18) scLaw.nd rfl (.inl rfl) (pe_k cLed hg hr (by decide) (by rfl) (pa_cons (pv 4) (pa_cons (pv 8) (pa_cons (pe_ix ix_tup (pv 17) (pe_k cPl hg hr (by decide) (by rfl) (pa_cons (pv 3) (pa_cons (pv 8) pa_nil))) (fun _ _ => rfl)) (pa_cons (pv 9) pa_nil))))))
            (pss_one (ps_if (pt_cmpR op_lt (pe_ix ix_tup (pv 17) (pe_k cPl hg hr (by decide) (by rfl) (pa_cons (pv 3) (pa_cons (pv 10) pa_nil))) (fun _ _ => rfl)) (pv 18) (nomark _)) (pss_one (ps_ret pe_bl)) pss_nil))) pss_nil)))))))))))))))))))
      (pss_cons (ps_par (i := 19) (j := 20) rfl scLaw.nd rfl rfl (by decide) rfl rfl (pa_cons (pe_lst (pa_cons (pe_tup (pa_cons pe_str (pa_cons pe_int (pa_cons pe_int pa_nil)))) (pa_cons (pe_tup (pa_cons pe_str (pa_cons pe_int (pa_cons pe_int pa_nil)))) (pa_cons (pe_tup (pa_cons pe_str (pa_cons pe_int (pa_cons pe_int pa_nil)))) pa_nil)))) (pa_cons (pe_lst (pa_cons (pe_tup (pa_cons pe_str (pa_cons pe_str (pa_cons pe_int pa_nil)))) (pa_cons (pe_tup (pa_cons pe_str (pa_cons pe_str (pa_cons pe_int pa_nil)))) (pa_cons (pe_tup (pa_cons pe_str (pa_cons pe_str (pa_cons (pe_un un_neg pe_int) pa_nil)))) pa_nil)))) pa_nil)) (by rfl))
      (pss_cons (ps_set (i := 4) scLaw.nd rfl (.inr rfl) (pe_mkr mk hr (by decide) (by rfl) (pa_cons (pv 19) (pa_cons (pv 20) pa_nil))))
      (pss_cons (ps_setLc (i := 15) (own := [("v", 12)]) rfl scLaw.nd rfl rfl (sw_true rfl rfl rfl (by decide +kernel)) (pi_tup (pe_tup (pa_cons pe_int (pa_cons pe_int pa_nil)))) (blkOk_by (N := ["script", "source", "lap", "net", "made", "period", "last", "turn", "name", "walk", "end", "clock", "v", "due", "value", "told", "is_due", "table", "high", "points", "rules", "long", "point"]) (sc := defScope sLaw) (by decide +kernel)) (fun _ _ _ _ _ => (pg_name (i := 12) scLaw.nd rfl (.inl rfl))) (fun _ _ _ _ _ => pts_nil) (fun _ _ _ _ _ => (pe_k cLed hg hr (by decide) (by rfl) (pa_cons (pv 4) (pa_cons pe_str (pa_cons (pv 12) (pa_cons (pe_lst (pa_cons pe_int (pa_cons pe_int (pa_cons pe_int pa_nil)))) pa_nil)))))))
      (pss_cons (ps_set (i := 15) scLaw.nd rfl (.inl rfl) (pe_op op_cat (pv 15) (pe_lst (pa_cons (pe_k cLed hg hr (by decide) (by rfl) (pa_cons (pv 4) (pa_cons pe_str (pa_cons pe_int (pa_cons (pe_lst (pa_cons pe_int pa_nil)) pa_nil))))) (pa_cons (pe_k cLed hg hr (by decide) (by rfl) (pa_cons (pv 4) (pa_cons pe_str (pa_cons (pe_un un_neg pe_int) (pa_cons (pe_tup pa_nil) pa_nil))))) pa_nil)))))
      (pss_cons (ps_set (i := 21) scLaw.nd rfl (.inl rfl) (pe_k cLed hg hr (by decide) (by rfl) (pa_cons (pe_mkr mk hr (by decide) (by rfl) (pa_cons (pe_lst (pa_cons (pe_tup (pa_cons pe_str (pa_cons pe_int (pa_cons pe_int pa_nil)))) pa_nil)) (pa_cons (pe_lst (pa_cons (pe_tup (pa_cons pe_str (pa_cons pe_str (pa_cons pe_int pa_nil)))) pa_nil)) pa_nil))) (pa_cons pe_str (pa_cons pe_int (pa_cons (pe_op op_rep (pe_lst (pa_cons pe_int pa_nil)) pe_int) pa_nil))))))
      (pss_one (ps_ret (pe_and (pe_cmpR (op_eqD hu64) (pv 15) (pe_lst (pa_cons pe_int (pa_cons pe_int (pa_cons pe_int (pa_cons (pe_un un_neg pe_int) pa_nil))))) (nomark _)) (pe_one (pe_cmpR op_eq (pv 21) pe_int (nomark _))))))))))))), ?_⟩
    refine ⟨_, rfl, a, ns, rfl, hS, hl, fun d c H0 nd nc S0 s0' => ?_⟩
    have tabs := Tabs.same tabs s0'
    refine ⟨6, rfl, by decide, by decide, ?_⟩
    refine for_range (lo := 0) (fun i σ H1 => ∃ (v2 v3 v4 v5 v6 v7 v8 v9 v10 v11 v12 v13 v14 v15 v16 v17 v18 v19 v20 v21 v22 : Option V), σ = [some (.ref a), some (.ref d), v2, v3, v4, v5, v6, v7, v8, v9, v10, v11, v12, v13, v14, v15, v16, v17, v18, v19, v20, v21, v22] ∧ Src H1 d c ∧ Tabs (lamT P1) H1)
      ⟨_, _, _, _, _, _, _, _, _, _, _, _, _, _, _, _, _, _, _, _, _, rfl, S0, tabs⟩ ?_ ?_
    · rintro i σ H1 hi ⟨v2, v3, v4, v5, v6, v7, v8, v9, v10, v11, v12, v13, v14, v15, v16, v17, v18, v19, v20, v21, v22, rfl, S1, tabs⟩
      refine st_step (σ' := [some (.ref a), some (.ref d), some (.int (0 + (i : Nat))), v3, v4, v5, v6, v7, v8, v9, v10, v11, v12, v13, v14, v15, v16, v17, v18, v19, v20, v21, v22]) rfl ?_
      refine (fun (fin : ∀ (n : Addr) (ps : List Pt) (rs : List Rl) (H2 : Hp), LNet (mask d c H2) n ps rs → Pu ps rs → (0 < i → Drawn ps rs 6 10) → Src H2 d c → Tabs (lamT P1) H2 → (?TT : Addr → Hp → Prop) n H2) => ?main) ?after
      case main =>
        refine ⟨_, rfl, _, _, rfl, rfl, _, rfl, ?_⟩
        by_cases lap : (0 : Int) < 0 + (i : Nat)
        · rw [decide_eq_true lap]
          refine iteT ⟨_, rfl, d, c, 6, 10, rfl, S1, by decide, by decide, by decide, fun n ps rs H2 net dr S2 k2 => ?_⟩
          exact fin n ps rs H2 net (Pu.of_drawn dr) (fun _ => dr) S2 (tabs_keep tabs S1 k2)
        · rw [decide_eq_false lap]
          refine iteF ⟨_, rfl, d, c, 6, 10, rfl, S1, by decide, by decide, by decide, by decide, fun n ps rs H2 net good pt rl p0 pm rm S2 k2 => ?_⟩
          exact fin n ps rs H2 net ⟨good, p0, pm, rm, pt, rl⟩ (fun z => absurd z (by omega)) S2 (tabs_keep tabs S1 k2)
      case after =>
        intro n ps rs H2 net pu dr S2 tabs2
        refine st_step (σ' := [some (.ref a), some (.ref d), some (.int (0 + (i : Nat))), some (.ref n), v4, v5, v6, v7, v8, v9, v10, v11, v12, v13, v14, v15, v16, v17, v18, v19, v20, v21, v22]) rfl ?_
        obtain ⟨PA, RA, as, bs, h1, h2, h3, h4, h5⟩ := net.ex
        -- made, period
        refine ⟨_, rfl, n, _, rfl, get_pts (mask_same _ _ h1), _, rfl, n, _, rfl, get_rls (mask_same _ _ h1), fun x dx nx ndx ne => ?_⟩
        have sm : Same H2 (upd (upd H2 dx (.own x)) x (.ins C dx [])) := (same_new ndx).trans (same_new (by rw [upd_ne ne.symm]; exact nx))
        refine ⟨x, dx, PA, RA, as, bs, ps, rs, rfl, upd_same, sm _ _ (mask_same _ _ h2), sm _ _ (mask_same _ _ h3), (h4.same mask_same).same sm, (h5.same mask_same).same sm, pu.good, fun H3 b3 mad => ⟨rfl, ?_⟩⟩
        have s3 : Same H2 H3 := fun y u e => b3 y u (sm _ _ e) (ne_of_none e nx)
        have S3 := S2.same s3
        have w3 : A3 C d c n x P1 ps rs H3 := ⟨S3, Tabs.same tabs2 s3, net.same (mask_keep (Keep.of s3)), mad.msk S3 pu.p0⟩
        clear sm mad b3 h1 h2 h3 h4 h5 net S2 tabs2 S3 s3 nx ndx ne
        refine ⟨_, rfl, n, ps, rs, 1562701140, rfl, w3.lnet, pu.pt, by decide, by decide, fun H4 s4 => ?_⟩
        have w4 := w3.same s4
        refine ⟨(by show 2 ≤ sizeLine; decide), fun tp ntp => ?_⟩
        refine ⟨tp, _, rfl, SqT.of upd_same, rfl, _, _, rfl, _, _, rfl, rfl, ?_⟩
        have w5 := w4.new (o := .tup [.ref x, .int (lcmOf ps : Nat)]) ntp
        revert w5
        generalize upd H4 tp (.tup [.ref x, .int (lcmOf ps : Nat)]) = H5
        intro w5
        clear w3 w4 ntp s4
        refine st_step (σ' := [some (.ref a), some (.ref d), some (.int (0 + (i : Nat))), some (.ref n), some (.ref x), some (.int (lcmOf ps : Nat)), v6, v7, v8, v9, v10, v11, v12, v13, v14, v15, v16, v17, v18, v19, v20, v21, v22]) rfl ?_
        -- made by with_rules
        refine (fun (fin2 : ∀ (x : Addr) (H6 : Hp), A3 C d c n x P1 ps rs H6 → (?TT2 : Addr → Hp → Prop) x H6) => ?main2) ?after2
        case main2 =>
          refine ⟨_, rfl, rfl, _, rfl, ?_⟩
          by_cases one : V.int (0 + (i : Nat)) = V.int 1
          · rw [decide_eq_true one]
            obtain ⟨PA, RA, as, bs, h1, h2, h3, h4, h5⟩ := w5.net.ex
            refine iteT ⟨_, rfl, n, _, rfl, get_pts (mask_same _ _ h1), (by show 0 ≤ sizeLine; decide), fun l nl => ?_⟩
            have w6 := w5.new (o := .lst []) nl
            have s6 := same_new (H := H5) (o := .lst []) nl
            have hl6 := upd_same (H := H5) (a := l) (o := .lst [])
            revert w6 s6 hl6
            generalize upd H5 l (.lst []) = H6
            intro w6 s6 hl6
            refine fun x2 dx nx ndx ne => ?_
            have sm : Same H6 (upd (upd H6 dx (.own x2)) x2 (.ins C dx [])) := (same_new ndx).trans (same_new (by rw [upd_ne ne.symm]; exact nx))
            have sm5 := s6.trans sm
            refine ⟨x2, dx, PA, l, as, [], ps, [], rfl, upd_same, sm5 _ _ (mask_same _ _ h2), sm _ _ hl6, (h4.same mask_same).same sm5, row_nil, pu.good.bare, fun H7 b7 mad => ⟨rfl, ?_⟩⟩
            have s7 : Same H6 H7 := fun y u e => b7 y u (sm _ _ e) (ne_of_none e nx)
            have s57 := s6.trans s7
            refine ⟨_, rfl, n, _, rfl, get_rls (s57 _ _ (mask_same _ _ h1)), x2, RA, bs, ps, [], rs, rfl, mad, s57 _ _ (mask_same _ _ h3), (h5.same mask_same).same s57, pu.good, fun x3 H8 s8 net8 => ?_⟩
            exact fin2 x3 H8 (((w6.same s7).same s8).re net8 pu.p0)
          · rw [decide_eq_false one]
            exact iteF ⟨_, rfl, fin2 x H5 w5⟩
        case after2 =>
          clear w5
          intro x H6 w6
          refine st_step (σ' := [some (.ref a), some (.ref d), some (.int (0 + (i : Nat))), some (.ref n), some (.ref x), some (.int (lcmOf ps : Nat)), v6, v7, v8, v9, v10, v11, v12, v13, v14, v15, v16, v17, v18, v19, v20, v21, v22]) rfl ?_
          -- made by without_rule
          refine (fun (fin3 : ∀ (x : Addr) (v6 : Option V) (H6 : Hp), A3 C d c n x P1 ps rs H6 → (?TT3 : Addr → Option V → Hp → Prop) x v6 H6) => ?main3) ?after3
          case main3 =>
            refine ⟨_, rfl, rfl, _, rfl, ?_⟩
            by_cases two : V.int (0 + (i : Nat)) = V.int 2
            · rw [decide_eq_true two]
              refine iteT ?_
              obtain ⟨PA, RA, as, bs, h1, h2, h3, h4, h5⟩ := w6.net.ex
              refine ⟨_, rfl, _, rfl, n, _, rfl, get_pts (mask_same _ _ h1), d, c, PA, as.map V.ref, rfl, w6.S, mask_same _ _ h2, (msk_ne h2).2, by rw [List.length_map, h4.1]; exact pu.p0, by rw [List.length_map, h4.1]; have := pu.pm; omega, fun j v H7 hv S7 k7 => ?_⟩
              have w7 := w6.keep k7 S7
              have hj : j < as.length := by
                have := (List.getElem?_eq_some_iff.mp hv).1
                rwa [List.length_map] at this
              have hjp : j < ps.length := by rw [← h4.1]; exact hj
              obtain rfl : V.ref as[j] = v := by
                rw [List.getElem?_map, List.getElem?_eq_getElem hj] at hv
                exact Option.some.inj hv
              have pt := mask_keep k7 _ _ (h4.2 j _ _ (List.getElem?_eq_getElem hj) (List.getElem?_eq_getElem hjp))
              have mem : ps[j].1 ∈ namesOf ps := List.mem_map.mpr ⟨_, List.getElem_mem hjp, rfl⟩
              refine ⟨as[j], _, 0, _, rfl, rfl, SqT.of (mask_same _ _ pt), atN (i := 0) rfl, ?_⟩
              refine st_step (σ' := [some (.ref a), some (.ref d), some (.int (0 + (i : Nat))), some (.ref n), some (.ref x), some (.int (lcmOf ps : Nat)), some (.str ps[j].1), v7, v8, v9, v10, v11, v12, v13, v14, v15, v16, v17, v18, v19, v20, v21, v22]) rfl ?_
              refine ⟨_, rfl, _, rfl, _, rfl, (by show 3 ≤ sizeLine; decide), fun t nt => ⟨(by show 1 ≤ sizeLine; decide), fun l nl => ?_⟩⟩
              have s8 := (same_new (o := .tup [.str ps[j].1, .str ps[j].1, .int 0]) nt).trans (same_new (o := .lst [.ref t]) nl)
              have hl8 := upd_same (H := upd H7 t (.tup [.str ps[j].1, .str ps[j].1, .int 0])) (a := l) (o := .lst [.ref t])
              have ht8 := same_new (o := .lst [.ref t]) nl _ _ (upd_same (H := H7) (a := t) (o := .tup [.str ps[j].1, .str ps[j].1, .int 0]))
              revert s8 hl8 ht8
              generalize upd (upd H7 t (.tup [.str ps[j].1, .str ps[j].1, .int 0])) l (.lst [.ref t]) = H8
              intro s8 hl8 ht8
              have w8 := w7.same s8
              refine ⟨x, l, [t], ps, rs, [(ps[j].1, ps[j].1, 0)], rfl, w8.at_, hl8, ⟨rfl, fun k b r e1 e2 => ?_⟩, pu.good.more mem pu.rm, fun x2 H9 s9 net9 => ?_⟩
              · match k with
                | 0 => cases e1; cases e2; exact ht8
                | k + 1 => cases e1
              have w9 := w8.same s9
              obtain ⟨PB, RB, cs, es, g1, g2, g3, g4, g5⟩ := w9.net.ex
              refine ⟨_, rfl, n, _, rfl, get_rls (mask_same _ _ g1), RB, _, rfl, .inl (SqL.of (mask_same _ _ g3)), ?_⟩
              rw [List.length_map, g5.1]
              refine ⟨x2, rs.length, ps, rs ++ [(ps[j].1, ps[j].1, 0)], rfl, net9, by rw [List.length_append]; exact Nat.lt_succ_self _, by have := pu.rm; rw [List.length_append]; simp; omega, by rw [erase_last]; exact pu.good, fun x3 H10 s10 net10 => ?_⟩
              rw [erase_last] at net10
              have w10 := (w9.same s10).re net10 pu.p0
              clear w9 net10 net9 s9 s10 w8 ht8 hl8 s8
              generalize some (V.str ps[j].1) = v69
              refine name_step (σ' := [some (.ref a), some (.ref d), some (.int (0 + (i : Nat))), some (.ref n), some (.ref x3), some (.int (lcmOf ps : Nat)), v69, v7, v8, v9, v10, v11, v12, v13, v14, v15, v16, v17, v18, v19, v20, v21, v22]) rfl ?_
              exact fin3 x3 v69 H10 w10
              --((w9.same s10).re net10 pu.p0)
            · rw [decide_eq_false two]
              exact iteF (fin3 x v6 H6 w6)
          case after3 =>
            clear w6
            intro x v6 H7 w7
            refine ⟨4, rfl, by decide, by decide, ?_⟩
            refine for_range (lo := 0) (fun j σ H8 => ∃ (v7 v8 v9 v10 v11 v12 v13 v14 v15 v16 v17 v18 v19 v20 v21 v22 : Option V), σ = [some (.ref a), some (.ref d), some (.int (0 + (i : Nat))), some (.ref n), some (.ref x), some (.int (lcmOf ps : Nat)), v6, v7, v8, v9, v10, v11, v12, v13, v14, v15, v16, v17, v18, v19, v20, v21, v22] ∧ A3 C d c n x P1 ps rs H8) ⟨_, _, _, _, _, _, _, _, _, _, _, _, _, _, _, _, rfl, w7⟩ ?_ ?_
            · clear w7
              rintro j σ H7 hj ⟨v7, v8, v9, v10, v11, v12, v13, v14, v15, v16, v17, v18, v19, v20, v21, v22, rfl, w7⟩
              refine st_step (σ' := [some (.ref a), some (.ref d), some (.int (0 + (i : Nat))), some (.ref n), some (.ref x), some (.int (lcmOf ps : Nat)), v6, some (.int (0 + (j : Nat))), v8, v9, v10, v11, v12, v13, v14, v15, v16, v17, v18, v19, v20, v21, v22]) rfl ?_
              -- name
              obtain ⟨PA, RA, as, bs, h1, h2, h3, h4, h5⟩ := w7.net.ex
              refine ⟨_, rfl, _, rfl, n, _, rfl, get_pts (mask_same _ _ h1), d, c, PA, as.map V.ref, rfl, w7.S, mask_same _ _ h2, (msk_ne h2).2, by rw [List.length_map, h4.1]; exact pu.p0, by rw [List.length_map, h4.1]; have := pu.pm; omega, fun k v H8 hv S8 k8 => ?_⟩
              have w8 := w7.keep k8 S8
              have hk : k < as.length := by
                have := (List.getElem?_eq_some_iff.mp hv).1
                rwa [List.length_map] at this
              have hkp : k < ps.length := by rw [← h4.1]; exact hk
              obtain rfl : V.ref as[k] = v := by
                rw [List.getElem?_map, List.getElem?_eq_getElem hk] at hv
                exact Option.some.inj hv
              have pt := mask_keep k8 _ _ (h4.2 k _ _ (List.getElem?_eq_getElem hk) (List.getElem?_eq_getElem hkp))
              refine ⟨as[k], _, 0, _, rfl, rfl, SqT.of (mask_same _ _ pt), atN (i := 0) rfl, ?_⟩
              obtain ⟨⟨nm, fp, sp⟩, hpk⟩ : ∃ p, ps[k]? = some p := ⟨_, List.getElem?_eq_getElem hkp⟩
              have epk : ps[k] = (nm, fp, sp) := by
                rw [List.getElem?_eq_getElem hkp] at hpk
                exact Option.some.inj hpk
              rw [epk]
              refine name_step (σ' := [some (.ref a), some (.ref d), some (.int (0 + (i : Nat))), some (.ref n), some (.ref x), some (.int (lcmOf ps : Nat)), v6, some (.int (0 + (j : Nat))), some (.str nm), v9, v10, v11, v12, v13, v14, v15, v16, v17, v18, v19, v20, v21, v22]) rfl ?_
              obtain ⟨sp1, sp60, _⟩ := pu.pt _ (List.mem_of_getElem? hpk)
              have sp1 : 1 ≤ sp := sp1
              have sp60 : sp ≤ 60 := sp60
              clear h1 h2 h3 h4 h5 hv S8 k8 hk pt epk w7 hkp
              -- walk, end
              refine ⟨_, rfl, _, rfl, _, rfl, d, c, n, nm, 15, ps, rs, rfl, w8.S, w8.net, by have := pu.rm; omega, by decide, fun t W y ks H9 ht hW we lk S9 k9 => ?_⟩
              refine ⟨t, _, rfl, SqT.of (mask_same _ _ ht), rfl, _, _, rfl, _, _, rfl, rfl, ?_⟩
              refine st_step (σ' := [some (.ref a), some (.ref d), some (.int (0 + (i : Nat))), some (.ref n), some (.ref x), some (.int (lcmOf ps : Nat)), v6, some (.int (0 + (j : Nat))), some (.str nm), some (.ref W), some (.str y), v11, v12, v13, v14, v15, v16, v17, v18, v19, v20, v21, v22]) rfl ?_
              have w9 := w8.keep k9 S9
              clear w8 S9 k9 ht
              -- clock
              refine ⟨_, rfl, _, rfl, n, ps, rs, k, (nm, fp, sp), rfl, w9.lnet, pu.good.nd, by have := pu.pm; omega, hpk, fun ck9 H10 s10 hck => ?_⟩
              refine st_step (σ' := [some (.ref a), some (.ref d), some (.int (0 + (i : Nat))), some (.ref n), some (.ref x), some (.int (lcmOf ps : Nat)), v6, some (.int (0 + (j : Nat))), some (.str nm), some (.ref W), some (.str y), some (.ref ck9), v12, v13, v14, v15, v16, v17, v18, v19, v20, v21, v22]) rfl ?_
              have w10 := w9.same s10
              have hW := mask_keep (Keep.of s10) _ _ hW
              have hck := mask_at (w10.S.nd hck) hck
              clear w9 s10
              -- v
              refine ⟨_, rfl, _, rfl, _, rfl, d, c, 40, rfl, w10.S, (by decide), fun z1 H11 z10 z11 S11 k11 => ?_⟩
              refine ⟨z1, 20, rfl, rfl, _, _, rfl, rfl, ⟨by decide, by decide, by decide⟩, _, _, rfl, rfl, ⟨by decide, by decide, by decide⟩, _, rfl, (by show 3 ≤ sizeLine; decide), fun q nq => ?_⟩
              have w11 := (w10.keep k11 S11).new (o := .lst (([z1 - 20, 10 ^ 39, -(10 ^ 39)] : List Int).map V.int)) nq
              have k11 := k11.trans (Keep.refl.new (d := d) (c := c) (o := .lst (([z1 - 20, 10 ^ 39, -(10 ^ 39)] : List Int).map V.int)) nq)
              refine ⟨d, c, q, ([z1 - 20, 10 ^ 39, -(10 ^ 39)] : List Int).map V.int, rfl, w11.S, upd_same, (S11.away nq).2, (by show 0 < 3; decide), (by show 3 < 1000000000; decide), ?_⟩
              intro e u H12 hu12 S12 k12
              obtain ⟨u, hz, rfl⟩ := int_at hu12
              have bu : u.natAbs ≤ 10 ^ 39 := by
                have m := List.mem_of_getElem? hz
                simp only [List.mem_cons, List.not_mem_nil, or_false] at m
                rcases m with e | e | e
                · omega
                · subst e
                  decide +kernel
                · subst e
                  decide +kernel
              have w12 := w11.keep k12 S12
              have k12 := k11.trans k12
              have hW := mask_keep k12 _ _ hW
              have hck := mask_keep k12 _ _ hck
              refine ⟨ck9, fp, sp, u, rfl, mask_same _ _ hck, by omega, by omega, ?_⟩
              have bv : (upv fp sp u).natAbs ≤ 10 ^ 39 + 60 := by
                have := upv_near (f := fp) (x := u) (show 0 < sp by omega) sp60
                omega
              revert bv
              generalize upv fp sp u = v
              intro bv
              refine name_step (σ' := [some (.ref a), some (.ref d), some (.int (0 + (i : Nat))), some (.ref n), some (.ref x), some (.int (lcmOf ps : Nat)), v6, some (.int (0 + (j : Nat))), some (.str nm), some (.ref W), some (.str y), some (.ref ck9), some (.int v), v13, v14, v15, v16, v17, v18, v19, v20, v21, v22]) rfl ?_
              clear w10 w11 k11 k12 S11 S12 z10 z11 hu12 hz bu
              -- due
              have wv : wend rs nm (ks.map V.int) ≠ none := by rw [we]; nofun
              have fi := FlL.ints ks
              refine ⟨_, rfl, _, rfl, _, rfl, n, W, v, ps, rs, ks.map V.int, rfl, w12.lnet, pu.good, .inl (mask_same _ _ hW), ⟨nm, wv⟩, fun H13 s13 => ?_⟩
              refine st_step (σ' := [some (.ref a), some (.ref d), some (.int (0 + (i : Nat))), some (.ref n), some (.ref x), some (.int (lcmOf ps : Nat)), v6, some (.int (0 + (j : Nat))), some (.str nm), some (.ref W), some (.str y), some (.ref ck9), some (.int v), some (.int (ledN ps rs v (ks.map V.int))), v14, v15, v16, v17, v18, v19, v20, v21, v22]) rfl ?_
              have w13 := w12.same s13
              have hW := mask_keep (Keep.of s13) _ _ hW
              have hck := mask_keep (Keep.of s13) _ _ hck
              clear w12 s13
              -- led of a list and of a tuple
              have few : (ks.map V.int).length ≤ 210 := by rw [List.length_map]; omega
              have sml := pu.small few (v := v) (by omega)
              have nice := (nice_lst (ds := [.int (ledN ps rs v (ks.map V.int)), .int (ledN ps rs v (ks.map V.int))]) (fun e m => by
                simp only [List.mem_cons, List.not_mem_nil, or_false] at m
                rcases m with rfl | rfl <;> exact Rs.sm_int sml) (by show 2 ≤ 12; decide)).one
              refine ⟨_, rfl, _, rfl, _, rfl, _, rfl, x, nm, v, .ref W, ps, rs, ks.map V.int, rfl, w13.at_, pu.good, .lst (mask_same _ _ hW) (fun e m => (fi e m).od), wv, fun H14 s14 => ?_⟩
              have w14 := w13.same s14
              have hW := mask_keep (Keep.of s14) _ _ hW
              have hck := mask_keep (Keep.of s14) _ _ hck
              refine ⟨_, rfl, _, rfl, _, rfl, _, rfl, W, ks.map V.int, rfl, .inl ⟨SqL.of (mask_same _ _ hW), fun l nl => ?_⟩⟩
              have w15 := w14.new (o := .tup (ks.map V.int)) nl
              have hl15 := upd_same (H := H14) (a := l) (o := .tup (ks.map V.int))
              have hW := (mask_new (d := d) (c := c) (o := .tup (ks.map V.int)) nl) _ _ hW
              have hck := (mask_new (d := d) (c := c) (o := .tup (ks.map V.int)) nl) _ _ hck
              revert w15 hl15 hW hck
              generalize upd H14 l (.tup (ks.map V.int)) = H15
              intro w15 hl15 hW hck
              refine ⟨x, nm, v, .ref l, ps, rs, ks.map V.int, rfl, w15.at_, pu.good, .tup hl15 (fun e m => (fi e m).od), wv, fun H16 s16 => ?_⟩
              have w16 := w15.same s16
              have hW := mask_keep (Keep.of s16) _ _ hW
              have hck := mask_keep (Keep.of s16) _ _ hck
              clear w13 w14 w15 s14 s16 nl hl15
              refine ⟨(by show 2 ≤ sizeLine; decide), fun l1 nl1 => ?_⟩
              refine ⟨_, _, rfl, .lst (SqL.of upd_same) (.cons (.int _) (.cons (.int _) .nil)), nice.1, nice.2.1, nice.2.2, ?_⟩
              have w17 := w16.new (o := .lst [.int (ledN ps rs v (ks.map V.int)), .int (ledN ps rs v (ks.map V.int))]) nl1
              have hW := (mask_new (d := d) (c := c) (o := .lst [.int (ledN ps rs v (ks.map V.int)), .int (ledN ps rs v (ks.map V.int))]) nl1) _ _ hW
              have hck := (mask_new (d := d) (c := c) (o := .lst [.int (ledN ps rs v (ks.map V.int)), .int (ledN ps rs v (ks.map V.int))]) nl1) _ _ hck
              revert w17 hW hck
              generalize upd H16 l1 (.lst [.int (ledN ps rs v (ks.map V.int)), .int (ledN ps rs v (ks.map V.int))]) = H17
              intro w17 hW hck
              refine ⟨_, rfl, _, rfl, (by show 2 ≤ sizeLine; decide), fun l2 nl2 => ?_⟩
              refine ⟨_, _, rfl, .lst (SqL.of upd_same) (.cons (.int _) (.cons (.int _) .nil)), nice.1, nice.2.1, nice.2.2, ?_⟩
              have w18 := w17.new (o := .lst [.int (ledN ps rs v (ks.map V.int)), .int (ledN ps rs v (ks.map V.int))]) nl2
              have hW := (mask_new (d := d) (c := c) (o := .lst [.int (ledN ps rs v (ks.map V.int)), .int (ledN ps rs v (ks.map V.int))]) nl2) _ _ hW
              have hck := (mask_new (d := d) (c := c) (o := .lst [.int (ledN ps rs v (ks.map V.int)), .int (ledN ps rs v (ks.map V.int))]) nl2) _ _ hck
              revert w18 hW hck
              generalize upd H17 l2 (.lst [.int (ledN ps rs v (ks.map V.int)), .int (ledN ps rs v (ks.map V.int))]) = H18
              intro w18 hW hck
              clear w16 w17 nl1 nl2
              refine ⟨rfl, _, rfl, ?_⟩
              rw [ne_self]
              refine iteF ?_
              -- the same a period on
              refine ⟨_, rfl, _, rfl, _, rfl, _, rfl, 3, (lcmOf ps : Nat), rfl, rfl, .inl ⟨by decide, by decide⟩, v, _, rfl, rfl, _, rfl, x, nm, _, .ref W, ps, rs, ks.map V.int, rfl, w18.at_, pu.good, .lst (mask_same _ _ hW) (fun e m => (fi e m).od), wv, fun H19 s19 => ?_⟩
              have w19 := w18.same s19
              have hW := mask_keep (Keep.of s19) _ _ hW
              have hck := mask_keep (Keep.of s19) _ _ hck
              clear w18 s19
              refine ⟨_, rfl, _, rfl, 3, (lcmOf ps : Nat), rfl, rfl, .inl ⟨by decide, by decide⟩, _, _, rfl, rfl, ?_⟩
              rw [ledN_add pu.pos pu.dv]
              refine ⟨rfl, _, rfl, ?_⟩
              rw [ne_self]
              refine iteF ?_
              -- never less
              refine ⟨_, rfl, _, rfl, _, rfl, _, rfl, ck9, _, 1, _, rfl, rfl, SqT.of (mask_same _ _ hck), atN (i := 1) rfl, v, sp, rfl, rfl, _, rfl, x, nm, _, .ref W, ps, rs, ks.map V.int, rfl, w19.at_, pu.good, .lst (mask_same _ _ hW) (fun e m => (fi e m).od), wv, fun H20 s20 => ?_⟩
              have w20 := w19.same s20
              have hW := mask_keep (Keep.of s20) _ _ hW
              have mono := ledN_mono pu.pos (ks.map V.int) (show v ≤ v + sp by omega)
              clear w19 s20 hck
              refine ⟨_, rfl, _, _, rfl, rfl, _, rfl, ?_⟩
              rw [decide_eq_false (show ¬ ledN ps rs (v + sp) (ks.map V.int) < ledN ps rs v (ks.map V.int) by omega)]
              refine iteF ?_
              clear mono nice sml
              -- values near the walk
              refine ⟨_, rfl, _, rfl, _, rfl, d, c, n, W, ks, ps, rs, rfl, w20.S, w20.net, by have := pu.rm; omega, hW, by omega, fun t vals H21 S21 k21 ht jd lv => ?_⟩
              have w21 := w20.keep k21 S21
              have hW := mask_keep k21 _ _ hW
              clear w20 S21 k21
              refine ⟨t, rfl, ⟨_, SqL.of (mask_same _ _ ht)⟩, ?_⟩
              refine for_it walk_list (fun e σ H22 => ∃ (v14 v15 v16 : Option V), σ = [some (.ref a), some (.ref d), some (.int (0 + (i : Nat))), some (.ref n), some (.ref x), some (.int (lcmOf ps : Nat)), v6, some (.int (0 + (j : Nat))), some (.str nm), some (.ref W), some (.str y), some (.ref ck9), some (.int v), some (.int (ledN ps rs v (ks.map V.int))), v14, v15, v16, v17, v18, v19, v20, v21, v22] ∧ A3 C d c n x P1 ps rs H22 ∧ mask d c H22 W = some (.lst (ks.map V.int)) ∧ ExtN (mask d c H21) H22) ⟨_, _, _, rfl, w21, hW, fun b o e _ => mask_same _ _ e⟩ (fun e σ H22 _ ⟨_, _, _, _, _, _, z⟩ => SqL.of (z _ _ ht (by nofun))) ?_ ?_
              · clear w21 hW
                rintro e z σ H22x H22 he ⟨v14, v15, v16, rfl, w22, hW, e22⟩ ⟨rfl, hz⟩
                refine st_step (σ' := [some (.ref a), some (.ref d), some (.int (0 + (i : Nat))), some (.ref n), some (.ref x), some (.int (lcmOf ps : Nat)), v6, some (.int (0 + (j : Nat))), some (.str nm), some (.ref W), some (.str y), some (.ref ck9), some (.int v), some (.int (ledN ps rs v (ks.map V.int))), some z, v15, v16, v17, v18, v19, v20, v21, v22]) rfl ?_
                obtain ⟨xo, jG, fewx⟩ := jd z (List.mem_of_getElem? hz)
                cases hb : xo.bind (wend rs nm) with
                | some yy =>
                  obtain ⟨xs, rfl, hyy⟩ : ∃ xs, xo = some xs ∧ wend rs nm xs = some yy := by
                    cases xo with
                    | none => cases hb
                    | some xs => exact ⟨xs, rfl, hb⟩
                  have wx : wend rs nm xs ≠ none := by rw [hyy]; nofun
                  have sx := pu.small (fewx xs rfl) (v := v) (by omega)
                  have nx := (nice_tup (ds := [.str "told", .int (ledN ps rs v xs)]) (fun e m => by
                    simp only [List.mem_cons, List.not_mem_nil, or_false] at m
                    rcases m with rfl | rfl
                    · exact sm_told
                    · exact Rs.sm_int sx) (by show 2 ≤ 12; decide)).one
                  refine ⟨w22.tabs, fun H23 e23 t23 => ?_⟩
                  have w23 := w22.ext e23 t23
                  have hW := mask_ext e23 _ _ hW (by nofun)
                  have e23 := e22.trans e23
                  refine ⟨_, rfl, _, rfl, _, rfl, _, rfl, x, nm, v, z, ps, rs, some xs, rfl, w23.at_, pu.good, jG _ e23, fun xs' ex wv' H24 s24 => ?_, fun no => nomatch hb.symm.trans no⟩
                  cases ex
                  refine ⟨(by show 2 ≤ sizeLine; decide), fun p np => ?_⟩
                  have s25 := s24.trans (same_new (o := .tup [.str "told", .int (ledN ps rs v xs)]) np)
                  have hp := upd_same (H := H24) (a := p) (o := .tup [.str "told", .int (ledN ps rs v xs)])
                  revert s25 hp
                  generalize upd H24 p (.tup [.str "told", .int (ledN ps rs v xs)]) = H25
                  intro s25 hp
                  have w25 := w23.same s25
                  have hW := mask_keep (Keep.of s25) _ _ hW
                  have e25 := e23.trans (ExtN.of_same s25)
                  refine ⟨_, rfl, _, rfl, _, rfl, n, nm, z, ps, rs, some xs, rfl, w25.lnet, jG _ e25, fun H26 s26 => ?_⟩
                  have w26 := w25.same s26
                  have hW := mask_keep (Keep.of s26) _ _ hW
                  have e26 := e25.trans (ExtN.of_same s26)
                  have hp := s26 _ _ hp
                  rw [hb]
                  refine ⟨_, _, rfl, ?_⟩
                  refine st_step (σ' := [some (.ref a), some (.ref d), some (.int (0 + (i : Nat))), some (.ref n), some (.ref x), some (.int (lcmOf ps : Nat)), v6, some (.int (0 + (j : Nat))), some (.str nm), some (.ref W), some (.str y), some (.ref ck9), some (.int v), some (.int (ledN ps rs v (ks.map V.int))), some z, some (.ref p), some (.bl true), v17, v18, v19, v20, v21, v22]) rfl ?_
                  clear w22 w23 w25 e22 e23 e25 s24 s25 s26 np
                  refine ⟨_, rfl, _, _, rfl, .tup (SqT.of hp) (.cons (.str _) (.cons (.int _) .nil)), nx.1, nx.2.1, nx.2.2, ?_⟩
                  obtain ⟨q, rfl, hq⟩ : ∃ q, z = .ref q ∧ Row2 H26 q xs := by
                    cases jG _ e26 with
                    | lst h o => exact ⟨_, rfl, .inl h⟩
                    | tup h o => exact ⟨_, rfl, .inr h⟩
                  refine ⟨_, rfl, _, rfl, iteT ⟨_, rfl, _, rfl, _, rfl, n, q, v, ps, rs, xs, rfl, w26.lnet, pu.good, hq, ⟨nm, wx⟩, fun H27 s27 => ⟨(by show 2 ≤ sizeLine; decide), fun p2 np2 => ?_⟩⟩⟩
                  refine ⟨_, _, rfl, .tup (SqT.of upd_same) (.cons (.str _) (.cons (.int _) .nil)), nx.1, nx.2.1, nx.2.2, ?_⟩
                  have s28 := s27.trans (same_new (o := .tup [.str "told", .int (ledN ps rs v xs)]) np2)
                  revert s28
                  generalize upd H27 p2 (.tup [.str "told", .int (ledN ps rs v xs)]) = H28
                  intro s28
                  refine ⟨rfl, _, rfl, ?_⟩
                  rw [ne_self]
                  refine iteF ?_
                  exact ⟨_, _, _, rfl, w26.same s28, mask_keep (Keep.of s28) _ _ hW, e26.trans (ExtN.of_same s28)⟩
                | none =>
                  have nx := (nice_tup (ds := [.str "refused"]) (fun e m => by
                    cases List.mem_singleton.mp m
                    exact sm_ref) (by show 1 ≤ 12; decide)).one
                  refine ⟨w22.tabs, fun H23 e23 t23 => ?_⟩
                  have w23 := w22.ext e23 t23
                  have hW := mask_ext e23 _ _ hW (by nofun)
                  have e23 := e22.trans e23
                  refine ⟨_, rfl, _, rfl, _, rfl, _, rfl, x, nm, v, z, ps, rs, xo, rfl, w23.at_, pu.good, jG _ e23, fun xs' ex wv' => ?_, fun _ H24 s24 => ⟨true, EF.ww, fun _ => ⟨(by show 1 ≤ sizeLine; decide), fun p np => ?_⟩, nofun⟩⟩
                  · rw [ex] at hb
                    exact absurd hb wv'
                  have s25 := s24.trans (same_new (o := .tup [.str "refused"]) np)
                  have hp := upd_same (H := H24) (a := p) (o := .tup [.str "refused"])
                  revert s25 hp
                  generalize upd H24 p (.tup [.str "refused"]) = H25
                  intro s25 hp
                  have w25 := w23.same s25
                  have hW := mask_keep (Keep.of s25) _ _ hW
                  have e25 := e23.trans (ExtN.of_same s25)
                  refine ⟨_, rfl, _, rfl, _, rfl, n, nm, z, ps, rs, xo, rfl, w25.lnet, jG _ e25, fun H26 s26 => ?_⟩
                  have w26 := w25.same s26
                  have hW := mask_keep (Keep.of s26) _ _ hW
                  have e26 := e25.trans (ExtN.of_same s26)
                  have hp := s26 _ _ hp
                  rw [hb]
                  refine ⟨_, _, rfl, ?_⟩
                  refine st_step (σ' := [some (.ref a), some (.ref d), some (.int (0 + (i : Nat))), some (.ref n), some (.ref x), some (.int (lcmOf ps : Nat)), v6, some (.int (0 + (j : Nat))), some (.str nm), some (.ref W), some (.str y), some (.ref ck9), some (.int v), some (.int (ledN ps rs v (ks.map V.int))), some z, some (.ref p), some (.bl false), v17, v18, v19, v20, v21, v22]) rfl ?_
                  clear w22 w23 w25 e22 e23 e25 s24 s25 s26 np
                  refine ⟨_, rfl, _, _, rfl, .tup (SqT.of hp) (.cons (.str _) .nil), nx.1, nx.2.1, nx.2.2, ?_⟩
                  refine ⟨_, rfl, _, rfl, iteF ⟨(by show 1 ≤ sizeLine; decide), fun p2 np2 => ?_⟩⟩
                  refine ⟨_, _, rfl, .tup (SqT.of upd_same) (.cons (.str _) .nil), nx.1, nx.2.1, nx.2.2, ?_⟩
                  have s28 := same_new (o := .tup [.str "refused"]) np2
                  revert s28
                  generalize upd H26 p2 (.tup [.str "refused"]) = H28
                  intro s28
                  refine ⟨rfl, _, rfl, ?_⟩
                  rw [ne_self]
                  refine iteF ?_
                  exact ⟨_, _, _, rfl, w26.same s28, mask_keep (Keep.of s28) _ _ hW, e26.trans (ExtN.of_same s28)⟩
              · rintro σ H22 ⟨v14, v15, v16, rfl, w22, hW, _⟩
                clear w21 jd ht
                refine ⟨_, rfl, _, _, rfl, rfl, _, rfl, ?_⟩
                by_cases lap : (0 : Int) < 0 + (i : Nat)
                · rw [decide_eq_true lap]
                  have drw := dr (by omega)
                  obtain ⟨PA, RA, as, bs, h1, h2, h3, h4, h5⟩ := w22.net.ex
                  refine iteT ⟨_, rfl, _, rfl, n, _, rfl, get_pts (mask_same _ _ h1), PA, rfl, ⟨_, SqL.of (mask_same _ _ h2)⟩, fun E nE => ?_⟩
                  have aE := w22.S.away nE
                  have lz : (as.map V.ref).length = ps.length := by rw [List.length_map, h4.1]
                  refine lc_it walk_list (fun e H23 => Keep d c H22 H23 ∧ Src H23 d c ∧ ∃ fs : List Int, mask d c H23 E = some (.lst (fs.map V.int)) ∧ fs.length = e ∧ ∀ q, q ∈ fs → -100 ≤ q ∧ q ≤ 100) ⟨Keep.refl.new nE, w22.S.new nE, [], mask_at aE upd_same, rfl, fun q h => nomatch h⟩ (fun e H23 _ z => SqL.of (mask_same _ _ (mask_keep z.1 _ _ h2))) ?_ ?_
                  · rintro e u H23x H23 he ⟨k23, S23, fs, hE, lf, bf⟩ ⟨rfl, _⟩
                    rw [lz] at he
                    refine ⟨rfl, _, rfl, d, c, 30, rfl, S23, by decide, fun r H24 r0 r1 S24 k24 => ?_⟩
                    refine ⟨_, mask_same _ _ (mask_keep k24 _ _ hE), small1000 (by rw [List.length_map, lf]; have := pu.pm; omega), (k23.trans k24).put nE, S24.put aE, fs ++ [r], mask_at aE ?_, by rw [List.length_append, lf]; rfl, ?_⟩
                    · rw [upd_same, List.map_append]
                      rfl
                    · intro q hq
                      rcases List.mem_append.mp hq with g | g
                      · exact bf q g
                      · cases List.mem_singleton.mp g
                        omega
                  · rintro H23 ⟨k23, S23, fs, hE, lf, bf⟩
                    have w23 := w22.keep k23 S23
                    have hW := mask_keep k23 _ _ hW
                    rw [lz] at lf
                    refine ⟨n, E, ps, rs, fs, 6, 10, rfl, w23.lnet, drw, by decide, by decide, mask_same _ _ hE, lf, bf, fun u H24 s24 ht => ?_⟩
                    have w24 := w23.same s24
                    have hW := mask_keep (Keep.of s24) _ _ hW
                    clear w22 w23 k23 S23 hE h1 h2 h3 h4 h5 s24 lf bf nE aE
                    rcases ht with ⟨rfl, _⟩ | ⟨tb, zs, rfl, htb, tab⟩
                    · refine name_step (σ' := [some (.ref a), some (.ref d), some (.int (0 + (i : Nat))), some (.ref n), some (.ref x), some (.int (lcmOf ps : Nat)), v6, some (.int (0 + (j : Nat))), some (.str nm), some (.ref W), some (.str y), some (.ref ck9), some (.int v), some (.int (ledN ps rs v (ks.map V.int))), v14, v15, v16, some .non, v18, v19, v20, v21, v22]) rfl ?_
                      refine ⟨_, rfl, rfl, _, rfl, iteF ?_⟩
                      exact ⟨_, _, _, _, _, _, _, _, _, _, _, _, _, _, _, _, rfl, w24⟩
                    · refine name_step (σ' := [some (.ref a), some (.ref d), some (.int (0 + (i : Nat))), some (.ref n), some (.ref x), some (.int (lcmOf ps : Nat)), v6, some (.int (0 + (j : Nat))), some (.str nm), some (.ref W), some (.str y), some (.ref ck9), some (.int v), some (.int (ledN ps rs v (ks.map V.int))), v14, v15, v16, some (.ref tb), v18, v19, v20, v21, v22]) rfl ?_
                      refine ⟨_, rfl, rfl, _, rfl, iteT ?_⟩
                      have htb := mask_at (w24.S.nd htb) htb
                      have hnm := name_at hpk
                      have lz : k < zs.length := by rw [tab.len]; exact (List.getElem?_eq_some_iff.mp hpk).1
                      obtain ⟨a0, ha0⟩ : ∃ a0, zs[k]? = some a0 := ⟨_, List.getElem?_eq_getElem lz⟩
                      obtain ⟨ky, hky⟩ := List.getElem?_of_mem (wend_in pu.good.ends we (List.mem_of_getElem? hnm))
                      have ly : ky < zs.length := by
                        rw [tab.len]
                        have := (List.getElem?_eq_some_iff.mp hky).1
                        rwa [show (namesOf ps).length = ps.length from List.length_map _] at this
                      obtain ⟨b0, hb0⟩ : ∃ b0, zs[ky]? = some b0 := ⟨_, List.getElem?_eq_getElem ly⟩
                      have below := tab_below pu tab we
                      rw [zAt pu.good.nd hnm ha0, zAt pu.good.nd hky hb0] at below
                      refine ⟨_, rfl, _, rfl, _, rfl, _, rfl, _, rfl, n, ps, rs, k, nm, rfl, w24.lnet, pu.good.nd, by have := pu.pm; omega, hnm, fun H25 s25 => ?_⟩
                      have w25 := w24.same s25
                      have hW := mask_keep (Keep.of s25) _ _ hW
                      have htb := mask_keep (Keep.of s25) _ _ htb
                      refine ⟨tb, _, (k : Nat), _, rfl, rfl, SqT.of (mask_same _ _ htb), atN (i := k) (x := V.int a0) (by rw [List.getElem?_map, ha0]; rfl), ?_⟩
                      refine ⟨_, rfl, x, nm, a0, .ref W, ps, rs, ks.map V.int, rfl, w25.at_, pu.good, .lst (mask_same _ _ hW) (fun e m => (fi e m).od), wv, fun H26 s26 => ?_⟩
                      have w26 := w25.same s26
                      have htb := mask_keep (Keep.of s26) _ _ htb
                      revert below
                      generalize ledN ps rs a0 (ks.map V.int) = hi
                      intro below
                      refine name_step (σ' := [some (.ref a), some (.ref d), some (.int (0 + (i : Nat))), some (.ref n), some (.ref x), some (.int (lcmOf ps : Nat)), v6, some (.int (0 + (j : Nat))), some (.str nm), some (.ref W), some (.str y), some (.ref ck9), some (.int v), some (.int (ledN ps rs v (ks.map V.int))), v14, v15, v16, some (.ref tb), some (.int hi), v19, v20, v21, v22]) rfl ?_
                      refine ⟨_, rfl, _, rfl, _, rfl, n, ps, rs, ky, y, rfl, w26.lnet, pu.good.nd, by have := pu.pm; omega, hky, fun H27 s27 => ?_⟩
                      have w27 := w26.same s27
                      have htb := mask_keep (Keep.of s27) _ _ htb
                      refine ⟨tb, _, (ky : Nat), _, rfl, rfl, SqT.of (mask_same _ _ htb), atN (i := ky) (x := V.int b0) (by rw [List.getElem?_map, hb0]; rfl), ?_⟩
                      refine ⟨_, rfl, _, _, rfl, rfl, _, rfl, ?_⟩
                      rw [decide_eq_false (show ¬ b0 < hi by omega)]
                      refine iteF ?_
                      exact ⟨_, _, _, _, _, _, _, _, _, _, _, _, _, _, _, _, rfl, w27⟩
                · rw [decide_eq_false lap]
                  refine iteF ?_
                  refine name_step (σ' := [some (.ref a), some (.ref d), some (.int (0 + (i : Nat))), some (.ref n), some (.ref x), some (.int (lcmOf ps : Nat)), v6, some (.int (0 + (j : Nat))), some (.str nm), some (.ref W), some (.str y), some (.ref ck9), some (.int v), some (.int (ledN ps rs v (ks.map V.int))), v14, v15, v16, some .non, v18, v19, v20, v21, v22]) rfl ?_
                  refine ⟨_, rfl, rfl, _, rfl, iteF ?_⟩
                  exact ⟨_, _, _, _, _, _, _, _, _, _, _, _, _, _, _, _, rfl, w22⟩
            · rintro σ H8 ⟨v7, v8, v9, v10, v11, v12, v13, v14, v15, v16, v17, v18, v19, v20, v21, v22, rfl, w8⟩
              exact ⟨_, _, _, _, _, _, _, _, _, _, _, _, _, _, _, _, _, _, _, _, _, rfl, w8.S, w8.tabs⟩
    · rintro σ H1 ⟨v2, v3, v4, v5, v6, v7, v8, v9, v10, v11, v12, v13, v14, v15, v16, v17, v18, v19, v20, v21, v22, rfl, S1, tabs⟩
      clear S1 tabs
      refine ⟨(by show 3 ≤ sizeLine; decide), fun p1 np1 => ?_⟩
      have sp1 := same_new (H := H1) (o := .tup [.str "a", .int 0, .int 1]) np1
      have hp1 := upd_same (H := H1) (a := p1) (o := .tup [.str "a", .int 0, .int 1])
      revert sp1 hp1
      generalize upd H1 p1 (.tup [.str "a", .int 0, .int 1]) = G1
      intro sp1 hp1
      refine ⟨(by show 3 ≤ sizeLine; decide), fun p2 np2 => ?_⟩
      have sp2 := same_new (H := G1) (o := .tup [.str "b", .int 1, .int 2]) np2
      have hp2 := upd_same (H := G1) (a := p2) (o := .tup [.str "b", .int 1, .int 2])
      have hp1 := sp2 _ _ hp1
      revert sp2 hp2 hp1
      generalize upd G1 p2 (.tup [.str "b", .int 1, .int 2]) = G2
      intro sp2 hp2 hp1
      refine ⟨(by show 3 ≤ sizeLine; decide), fun p3 np3 => ?_⟩
      have sp3 := same_new (H := G2) (o := .tup [.str "c", .int 0, .int 3]) np3
      have hp3 := upd_same (H := G2) (a := p3) (o := .tup [.str "c", .int 0, .int 3])
      have hp1 := sp3 _ _ hp1
      have hp2 := sp3 _ _ hp2
      revert sp3 hp3 hp1 hp2
      generalize upd G2 p3 (.tup [.str "c", .int 0, .int 3]) = G3
      intro sp3 hp3 hp1 hp2
      refine ⟨(by show 3 ≤ sizeLine; decide), fun PL nPL => ?_⟩
      have sPL := same_new (H := G3) (o := .lst [.ref p1, .ref p2, .ref p3]) nPL
      have hPL := upd_same (H := G3) (a := PL) (o := .lst [.ref p1, .ref p2, .ref p3])
      have hp1 := sPL _ _ hp1
      have hp2 := sPL _ _ hp2
      have hp3 := sPL _ _ hp3
      revert sPL hPL hp1 hp2 hp3
      generalize upd G3 PL (.lst [.ref p1, .ref p2, .ref p3]) = G4
      intro sPL hPL hp1 hp2 hp3
      refine ⟨(by show 3 ≤ sizeLine; decide), fun r1 nr1 => ?_⟩
      have sr1 := same_new (H := G4) (o := .tup [.str "a", .str "b", .int 2]) nr1
      have hr1 := upd_same (H := G4) (a := r1) (o := .tup [.str "a", .str "b", .int 2])
      have hp1 := sr1 _ _ hp1
      have hp2 := sr1 _ _ hp2
      have hp3 := sr1 _ _ hp3
      have hPL := sr1 _ _ hPL
      revert sr1 hr1 hp1 hp2 hp3 hPL
      generalize upd G4 r1 (.tup [.str "a", .str "b", .int 2]) = G5
      intro sr1 hr1 hp1 hp2 hp3 hPL
      refine ⟨(by show 3 ≤ sizeLine; decide), fun r2 nr2 => ?_⟩
      have sr2 := same_new (H := G5) (o := .tup [.str "b", .str "c", .int 1]) nr2
      have hr2 := upd_same (H := G5) (a := r2) (o := .tup [.str "b", .str "c", .int 1])
      have hp1 := sr2 _ _ hp1
      have hp2 := sr2 _ _ hp2
      have hp3 := sr2 _ _ hp3
      have hPL := sr2 _ _ hPL
      have hr1 := sr2 _ _ hr1
      revert sr2 hr2 hp1 hp2 hp3 hPL hr1
      generalize upd G5 r2 (.tup [.str "b", .str "c", .int 1]) = G6
      intro sr2 hr2 hp1 hp2 hp3 hPL hr1
      refine ⟨4, rfl, ?_⟩
      refine ⟨(by show 3 ≤ sizeLine; decide), fun r3 nr3 => ?_⟩
      have sr3 := same_new (H := G6) (o := .tup [.str "c", .str "a", .int (-4)]) nr3
      have hr3 := upd_same (H := G6) (a := r3) (o := .tup [.str "c", .str "a", .int (-4)])
      have hp1 := sr3 _ _ hp1
      have hp2 := sr3 _ _ hp2
      have hp3 := sr3 _ _ hp3
      have hPL := sr3 _ _ hPL
      have hr1 := sr3 _ _ hr1
      have hr2 := sr3 _ _ hr2
      revert sr3 hr3 hp1 hp2 hp3 hPL hr1 hr2
      generalize upd G6 r3 (.tup [.str "c", .str "a", .int (-4)]) = G7
      intro sr3 hr3 hp1 hp2 hp3 hPL hr1 hr2
      refine ⟨(by show 3 ≤ sizeLine; decide), fun RL nRL => ?_⟩
      have sRL := same_new (H := G7) (o := .lst [.ref r1, .ref r2, .ref r3]) nRL
      have hRL := upd_same (H := G7) (a := RL) (o := .lst [.ref r1, .ref r2, .ref r3])
      have hp1 := sRL _ _ hp1
      have hp2 := sRL _ _ hp2
      have hp3 := sRL _ _ hp3
      have hPL := sRL _ _ hPL
      have hr1 := sRL _ _ hr1
      have hr2 := sRL _ _ hr2
      have hr3 := sRL _ _ hr3
      revert sRL hRL hp1 hp2 hp3 hPL hr1 hr2 hr3
      generalize upd G7 RL (.lst [.ref r1, .ref r2, .ref r3]) = G8
      intro sRL hRL hp1 hp2 hp3 hPL hr1 hr2 hr3
      refine ⟨_, _, rfl, ?_⟩
      refine st_step (σ' := [some (.ref a), some (.ref d), v2, v3, v4, v5, v6, v7, v8, v9, v10, v11, v12, v13, v14, v15, v16, v17, v18, some (.ref PL), some (.ref RL), v21, v22]) rfl ?_
      refine ⟨_, rfl, _, rfl, fun x dx nx ndx ne => ?_⟩
      have sm : Same G8 (upd (upd G8 dx (.own x)) x (.ins C dx [])) := (same_new ndx).trans (same_new (by rw [upd_ne ne.symm]; exact nx))
      refine ⟨x, dx, PL, RL, [p1, p2, p3], [r1, r2, r3], ps0, rs1, rfl, upd_same, sm _ _ hPL, sm _ _ hRL, row_cons (sm _ _ hp1) (row_cons (sm _ _ hp2) (row_cons (sm _ _ hp3) row_nil)), row_cons (sm _ _ hr1) (row_cons (sm _ _ hr2) (row_cons (sm _ _ hr3) row_nil)), good1, fun M0 b3 mad => ⟨rfl, ?_⟩⟩
      clear hp1 hp2 hp3 hPL hr1 hr2 hr3 hRL sm b3 nx ndx ne
      refine st_step (σ' := [some (.ref a), some (.ref d), v2, v3, some (.ref x), v5, v6, v7, v8, v9, v10, v11, v12, v13, v14, v15, v16, v17, v18, some (.ref PL), some (.ref RL), v21, v22]) rfl ?_
      refine ⟨(by show 2 ≤ sizeLine; decide), fun tv ntv => ?_⟩
      have stv := same_new (H := M0) (o := .tup [.int 0, .int 2]) ntv
      have htv := upd_same (H := M0) (a := tv) (o := .tup [.int 0, .int 2])
      have mad := mad.same stv
      revert stv htv mad
      generalize upd M0 tv (.tup [.int 0, .int 2]) = G9
      intro stv htv mad
      refine ⟨tv, rfl, ⟨_, SqT.of htv⟩, fun E nE => ?_⟩
      refine lc_it walk_tup (fun j N1 => Same G9 N1 ∧ N1 E = some (.lst ((([2, 2] : List Int).take j).map V.int))) ⟨same_new nE, upd_same⟩ (fun j N1 _ y => SqT.of (y.1 _ _ htv)) ?_ ?_
      · rintro j y N1 N2 hj ⟨sN, hE⟩ ⟨rfl, hy⟩
        have lt : j < 2 := hj
        obtain ⟨m, rfl, lm, tk⟩ : ∃ m : Int, y = .int m ∧ ledN ps0 rs1 m (([0, 1, 2] : List Int).map V.int) = 2 ∧ ([2, 2] : List Int).take (j + 1) = ([2, 2] : List Int).take j ++ [2] := by
          match j, lt, hy with
          | 0, _, hy => cases (Option.some.inj hy); exact ⟨0, rfl, by decide +kernel, rfl⟩
          | 1, _, hy => cases (Option.some.inj hy); exact ⟨2, rfl, by decide +kernel, rfl⟩
        refine ⟨rfl, _, rfl, _, rfl, (by show 3 ≤ sizeLine; decide), fun l nl => ?_⟩
        have sl := same_new (o := .lst (([0, 1, 2] : List Int).map V.int)) nl
        refine ⟨x, "a", m, .ref l, ps0, rs1, ([0, 1, 2] : List Int).map V.int, rfl, (mad.same sN).same sl, good1, .lst upd_same (fun e q => (FlL.ints _ e q).od), by rw [show wend rs1 "a" (([0, 1, 2] : List Int).map V.int) = some "a" by decide +kernel]; nofun, fun N3 s3 => ?_⟩
        rw [lm]
        have s13 := sl.trans s3
        refine ⟨_, s13 _ _ hE, small1000 (by rw [List.length_map, List.length_take]; omega), fun b o z => by rw [upd_ne (ne_of_none z nE)]; exact (sN.trans s13) b o z, ?_⟩
        rw [upd_same, tk, List.map_append]
        rfl
      · rintro N1 ⟨sN, hE⟩
        have hE : N1 E = some (.lst (([2, 2] : List Int).map V.int)) := hE
        have mad := mad.same sN
        refine name_step (σ' := [some (.ref a), some (.ref d), v2, v3, some (.ref x), v5, v6, v7, v8, v9, v10, v11, v12, v13, v14, some (.ref E), v16, v17, v18, some (.ref PL), some (.ref RL), v21, v22]) rfl ?_
        refine ⟨_, rfl, _, rfl, ?_⟩
        refine ⟨(by show 1 ≤ sizeLine; decide), fun l1 nl1 => ?_⟩
        have sl1 := same_new (H := N1) (o := .lst [.int 1]) nl1
        have hl1 := upd_same (H := N1) (a := l1) (o := .lst [.int 1])
        have mad := mad.same sl1
        have hE := sl1 _ _ hE
        revert sl1 hl1 mad hE
        generalize upd N1 l1 (.lst [.int 1]) = G10
        intro sl1 hl1 mad hE
        refine ⟨x, "b", 3, .ref l1, ps0, rs1, [.int 1], rfl, mad, good1, .lst hl1 (fun e q => by cases List.mem_singleton.mp q; exact True.intro), by rw [show wend rs1 "b" [.int 1] = some "c" by decide +kernel]; nofun, fun N2 s2 => ?_⟩
        rw [show ledN ps0 rs1 3 [.int 1] = 6 by decide +kernel]
        have mad := mad.same s2
        have hE := s2 _ _ hE
        refine ⟨_, rfl, 3, rfl, ?_⟩
        refine ⟨(by show 0 ≤ sizeLine; decide), fun l2 nl2 => ?_⟩
        have sl2 := same_new (H := N2) (o := .tup []) nl2
        have hl2 := upd_same (H := N2) (a := l2) (o := .tup [])
        have mad := mad.same sl2
        have hE := sl2 _ _ hE
        revert sl2 hl2 mad hE
        generalize upd N2 l2 (.tup []) = G11
        intro sl2 hl2 mad hE
        refine ⟨x, "c", -3, .ref l2, ps0, rs1, [], rfl, mad, good1, .tup hl2 (fun e q => nomatch q), nofun, fun N3 s3 => ?_⟩
        rw [show ledN ps0 rs1 (-3) [] = -3 from rfl]
        have mad := mad.same s3
        have hE := s3 _ _ hE
        refine ⟨(by show 2 ≤ sizeLine; decide), fun l3 nl3 => ?_⟩
        have sl3 := same_new (H := N3) (o := .lst [.int 6, .int (-3)]) nl3
        have hl3 := upd_same (H := N3) (a := l3) (o := .lst [.int 6, .int (-3)])
        have mad := mad.same sl3
        have hE := sl3 _ _ hE
        revert sl3 hl3 mad hE
        generalize upd N3 l3 (.lst [.int 6, .int (-3)]) = G12
        intro sl3 hl3 mad hE
        refine ⟨E, l3, _, _, rfl, rfl, hE, hl3, (by show 4 ≤ sizeLine; decide), fun l4 nl4 => ?_⟩
        have hl4 := upd_same (H := G12) (a := l4) (o := .lst (([2, 2] : List Int).map V.int ++ [.int 6, .int (-3)]))
        clear mad hE hl3
        revert hl4
        generalize upd G12 l4 (.lst (([2, 2] : List Int).map V.int ++ [.int 6, .int (-3)])) = L4
        intro hl4
        have hl4 : L4 l4 = some (.lst [.int 2, .int 2, .int 6, .int (-3)]) := hl4
        refine name_step (σ' := [some (.ref a), some (.ref d), v2, v3, some (.ref x), v5, v6, v7, v8, v9, v10, v11, v12, v13, v14, some (.ref l4), v16, v17, v18, some (.ref PL), some (.ref RL), v21, v22]) rfl ?_
        refine ⟨(by show 3 ≤ sizeLine; decide), fun p4 np4 => ?_⟩
        have sp4 := same_new (H := L4) (o := .tup [.str "a", .int 0, .int 7]) np4
        have hp4 := upd_same (H := L4) (a := p4) (o := .tup [.str "a", .int 0, .int 7])
        have hl4 := sp4 _ _ hl4
        revert sp4 hp4 hl4
        generalize upd L4 p4 (.tup [.str "a", .int 0, .int 7]) = G13
        intro sp4 hp4 hl4
        refine ⟨(by show 1 ≤ sizeLine; decide), fun PM nPM => ?_⟩
        have sPM := same_new (H := G13) (o := .lst [.ref p4]) nPM
        have hPM := upd_same (H := G13) (a := PM) (o := .lst [.ref p4])
        have hl4 := sPM _ _ hl4
        have hp4 := sPM _ _ hp4
        revert sPM hPM hl4 hp4
        generalize upd G13 PM (.lst [.ref p4]) = G14
        intro sPM hPM hl4 hp4
        refine ⟨(by show 3 ≤ sizeLine; decide), fun r4 nr4 => ?_⟩
        have sr4 := same_new (H := G14) (o := .tup [.str "a", .str "a", .int 1]) nr4
        have hr4 := upd_same (H := G14) (a := r4) (o := .tup [.str "a", .str "a", .int 1])
        have hl4 := sr4 _ _ hl4
        have hp4 := sr4 _ _ hp4
        have hPM := sr4 _ _ hPM
        revert sr4 hr4 hl4 hp4 hPM
        generalize upd G14 r4 (.tup [.str "a", .str "a", .int 1]) = G15
        intro sr4 hr4 hl4 hp4 hPM
        refine ⟨(by show 1 ≤ sizeLine; decide), fun RM nRM => ?_⟩
        have sRM := same_new (H := G15) (o := .lst [.ref r4]) nRM
        have hRM := upd_same (H := G15) (a := RM) (o := .lst [.ref r4])
        have hl4 := sRM _ _ hl4
        have hp4 := sRM _ _ hp4
        have hPM := sRM _ _ hPM
        have hr4 := sRM _ _ hr4
        revert sRM hRM hl4 hp4 hPM hr4
        generalize upd G15 RM (.lst [.ref r4]) = G16
        intro sRM hRM hl4 hp4 hPM hr4
        refine fun x9 dx nx ndx ne => ?_
        have sm : Same G16 (upd (upd G16 dx (.own x9)) x9 (.ins C dx [])) := (same_new ndx).trans (same_new (by rw [upd_ne ne.symm]; exact nx))
        refine ⟨x9, dx, PM, RM, [p4], [r4], ps9, rs9, rfl, upd_same, sm _ _ hPM, sm _ _ hRM, row_cons (sm _ _ hp4) row_nil, row_cons (sm _ _ hr4) row_nil, good9, fun M9 b9 mad => ⟨rfl, ?_⟩⟩
        have hl4 := b9 _ _ (sm _ _ hl4) (ne_of_none hl4 nx)
        clear hp4 hPM hr4 hRM sm b9 nx ndx ne
        refine ⟨(by show 1 ≤ sizeLine; decide), fun l5 nl5 => ?_⟩
        have sl5 := same_new (H := M9) (o := .lst [.int 0]) nl5
        have hl5 := upd_same (H := M9) (a := l5) (o := .lst [.int 0])
        have mad := mad.same sl5
        have hl4 := sl5 _ _ hl4
        revert sl5 hl5 mad hl4
        generalize upd M9 l5 (.lst [.int 0]) = G17
        intro sl5 hl5 mad hl4
        refine ⟨l5, 4000, _, rfl, rfl, hl5, by decide, by decide, (by show 1 * 4000 ≤ sizeLine; rw [sizeLine_eq]; omega), fun l6 nl6 => ?_⟩
        rw [show (4000 : Int).toNat = 4000 from rfl, flat1]
        have s6 := same_new (H := G17) (o := .lst (List.replicate 4000 (V.int 0))) nl6
        have h6 := upd_same (H := G17) (a := l6) (o := .lst (List.replicate 4000 (V.int 0)))
        have mad := mad.same s6
        have hl4 := s6 _ _ hl4
        revert h6 mad hl4
        generalize upd G17 l6 (.lst (List.replicate 4000 (V.int 0))) = L6
        intro h6 mad hl4
        refine ⟨x9, "a", 0, .ref l6, ps9, rs9, List.replicate 4000 (V.int 0), rfl, mad, good9, .lst h6 (fun e q => by cases (List.mem_replicate.mp q).2; exact True.intro), by rw [wend9]; nofun, fun L7 s7 => ?_⟩
        rw [show ledN ps9 rs9 0 (List.replicate 4000 (V.int 0)) = 28000 from led9 4000 0]
        have hl4 := s7 _ _ hl4
        clear mad h6 s6 nl6 s7
        refine name_step (σ' := [some (.ref a), some (.ref d), v2, v3, some (.ref x), v5, v6, v7, v8, v9, v10, v11, v12, v13, v14, some (.ref l4), v16, v17, v18, some (.ref PL), some (.ref RL), some (.int 28000), v22]) rfl ?_
        refine ⟨_, rfl, 3, rfl, ?_⟩
        refine ⟨(by show 4 ≤ sizeLine; decide), fun l8 nl8 => ?_⟩
        have sl8 := same_new (H := L7) (o := .lst [.int 2, .int 2, .int 6, .int (-3)]) nl8
        have hl8 := upd_same (H := L7) (a := l8) (o := .lst [.int 2, .int 2, .int 6, .int (-3)])
        have hl4 := sl8 _ _ hl4
        revert sl8 hl8 hl4
        generalize upd L7 l8 (.lst [.int 2, .int 2, .int 6, .int (-3)]) = G18
        intro sl8 hl8 hl4
        refine ⟨.list [.int 2, .int 2, .int 6, .int (-3)], .list [.int 2, .int 2, .int 6, .int (-3)], .lst (SqL.of hl4) (.cons (.int _) (.cons (.int _) (.cons (.int _) (.cons (.int _) .nil)))), .lst (SqL.of hl8) (.cons (.int _) (.cons (.int _) (.cons (.int _) (.cons (.int _) .nil)))), by decide +kernel, by decide +kernel, ?_⟩
        rw [show PyData.eqv (.list [.int 2, .int 2, .int 6, .int (-3)]) (.list [.int 2, .int 2, .int 6, .int (-3)]) = true by decide +kernel]
        refine ⟨true, rfl, iteT ?_⟩
        refine ⟨_, rfl, rfl, ?_⟩
        rw [decide_eq_true rfl]
        exact kend _

end
end K07
namespace K07
open PySem PySem.Spec L2 Rt LamX
open PyProof.Rows hiding St
structure Defs7 (K : PySem.W.Frag) (mg : Str → Option Value) : Prop where
  isWord : At K mg "is_word" sIsWord
  isInt : At K mg "is_integer" sIsInt
  isName : At K mg "is_name_of" sIsName
  wip : At K mg "wrong_in_point" sWip
  wips : At K mg "wrong_in_points" sWips
  wir : At K mg "wrong_in_rule" sWir
  wirs : At K mg "wrong_in_rules" sWirs
  pup : At K mg "up" sPUp
  isNum : At K mg "is_number" sIsNum
  end_ : At K mg "end_of_walk" sEnd
  led : At K mg "led" sLed
  wr : At K mg "with_rules" sWR
  wo : At K mg "without_rule" sWO
  source : At K mg "_law_source" sSource
  pick : At K mg "_law_pick" sPick
  of : At K mg "_law_of" sOf
  names : At K mg "_law_names" sNames
  up : At K mg "_law_up" sUp
  lInt : At K mg "_law_is_integer" sLInt
  steps : At K mg "_law_steps" sSteps
  net : At K mg "_law_net" sLNet
  far : At K mg "_law_far_net" sFar
  place : At K mg "_law_place" sPlace
  clockOf : At K mg "_law_clock_of" sClockOf
  period : At K mg "_law_period" sPeriod
  risen : At K mg "_law_risen" sRisen
  lled : At K mg "_law_led" sLLed
  walk : At K mg "_law_walk" sLWalk
  told : At K mg "_law_told" sTold
  isWalk : At K mg "_law_is_walk" sIsWalk
  near : At K mg "_law_near" sLNear
  law : At K mg "law" sLaw
structure Nil7 (mg : Str → Option Value) : Prop where
  zisinstance : mg "isinstance" = none
  zlen : mg "len" = none
  zall : mg "all" = none
  zint : mg "int" = none
  zbool : mg "bool" = none
  zstr : mg "str" = none
  ztuple : mg "tuple" = none
  zlist : mg "list" = none
  zenumerate : mg "enumerate" = none
  zrange : mg "range" = none
  zmax : mg "max" = none
  zmin : mg "min" = none
  zabs : mg "abs" = none
  zrepr : mg "repr" = none
  zzip : mg "zip" = none
structure Con7 (mg : Str → Option Value) : Prop where
  let_ : ∃ t, mg "LETTERS" = some (.str LET t)
  sgn : ∃ t, mg "WORD_SIGNS" = some (.str SGN t)
  lw : ∃ t, mg "LONGEST_WORD" = some (.int 12 t)
  gs : ∃ t, mg "GREATEST_STEP" = some (.int 60 t)
  lcm : mg "lcm" = some (.builtin "math.lcm")
structure Ms7 (K : PySem.W.Frag) (C : Addr) : Prop where
  points : MAt K C "points" "Network.points" sMPoints
  rules : MAt K C "rules" "Network.rules" sMRules
  names : MAt K C "names" "Network.names" sMNames
  has : MAt K C "has_name" "Network.has_name" sMHas
  index : MAt K C "index" "Network.index" sMIndex
  period : MAt K C "period" "Network.period" sMPeriod
  clock : MAt K C "clock" "Network.clock" sMClock
section
variable {P : Program} {w : World} {K : PySem.W.Frag} {mg : Str → Option Value} {base : Heap} {C CW c1 P1 : Addr}
theorem wds7 (N : Nil7 mg) (c : Con7 mg) : Wds mg := ⟨N.zisinstance, N.zlen, N.zall, N.zint, N.zbool, N.zstr, N.ztuple, N.zlist, N.zenumerate, c.let_, c.sgn, c.lw, c.gs⟩
theorem rng7 (N : Nil7 mg) : Rng mg := ⟨N.zrange, N.zlen, N.zmax, N.zmin, N.ztuple⟩
theorem lw7 (N : Nil7 mg) (c : Con7 mg) : Lw mg := { wds7 N c, rng7 N with zabs := N.zabs, zrepr := N.zrepr, zzip := N.zzip }
theorem the_law (A : Defs7 K mg) (N : Nil7 mg) (c : Con7 mg) (cn : ClsN K C) (mk : MkAt K mg "Network" C "Network.__init__" sInit) (m : Ms7 K C) (OW : Easy K mg "NoWay" CW) (ww : PySem.W.exmOne K (.ref CW) (.ref CW) = some true) (L1 : LamT K mg "law" c1 P1) {fa : Addr} (ha : mg "law" = some (.ref fa)) :
    ∃ fd : FuncData, (∀ (s : Shared) (u : Value), BindsTo s fd ⟨[u], []⟩ [("script", u)]) ∧ ∀ base : Heap, TabB base mg c1 P1 → FnG P w K mg base 9 fa fd ["script"] (spLaw K P1) := by
  obtain ⟨f, fd, F, mf⟩ := A.law.ex
  cases ha.symm.trans mf
  refine ⟨fd, ?_, fun base TB => ?_⟩
  · obtain ⟨oc, od, kV, doc, pm, an, cdv, ct, osl, rfl, lk, hcd⟩ := F.ex
    exact fun s u => .of_eq rfl
  have T := lw7 N c
  have fWord : Cf P w K mg base 1 "is_word" spWord1 := A.isWord.cf (fun f fd F => ok_isWord F T.toWds) fun f fd F => F.binds fun _ _ _ _ _ _ us hl => match us, hl with | [_], _ => rfl
  have fInt1 : Cf P w K mg base 1 "is_integer" spInt1 := A.isInt.cf (fun f fd F => ok_isInt F T.toWds) fun f fd F => F.binds fun _ _ _ _ _ _ us hl => match us, hl with | [_], _ => rfl
  have fInt2 : Cf P w K mg base 1 "is_integer" spIsInt := A.isInt.cf (fun f fd F => ok_isInt2 F T.toWds) fun f fd F => F.binds fun _ _ _ _ _ _ us hl => match us, hl with | [_], _ => rfl
  have fName : Cf P w K mg base 1 "is_name_of" spIsName := A.isName.cf (fun f fd F => ok_isName F T.toWds) fun f fd F => F.binds fun _ _ _ _ _ _ us hl => match us, hl with | [_, _], _ => rfl
  have fWip : Cf P w K mg base 2 "wrong_in_point" spWip := A.wip.cf (fun f fd F => ok_wip F T.toWds fWord fInt1) fun f fd F => F.binds fun _ _ _ _ _ _ us hl => match us, hl with | [_, _], _ => rfl
  have fWir : Cf P w K mg base 2 "wrong_in_rule" spWir := A.wir.cf (fun f fd F => ok_wir F T.toWds fName fInt1) fun f fd F => F.binds fun _ _ _ _ _ _ us hl => match us, hl with | [_, _], _ => rfl
  have fWips : Cf P w K mg base 3 "wrong_in_points" spWips := A.wips.cf (fun f fd F => ok_wips F T.toWds fWip) fun f fd F => F.binds fun _ _ _ _ _ _ us hl => match us, hl with | [_], _ => rfl
  have fWirs : Cf P w K mg base 3 "wrong_in_rules" spWirs := A.wirs.cf (fun f fd F => ok_wirs F T.toWds fWir) fun f fd F => F.binds fun _ _ _ _ _ _ us hl => match us, hl with | [_, _], _ => rfl
  have mkr : Mkr P w K mg base 4 C "Network" (spInit C) := mk.mkr (fun f fd F => ok_init F T.toWds cn fWips fWirs) (fun f fd F => F.binds fun _ _ _ _ _ _ us hl => match us, hl with | [_, _, _], _ => rfl)
  have mP : Md P w K mg base 1 C "points" (spPoints C) := m.points.md (fun f fd F => ok_mpoints F T.toWds cn) (fun f fd F => F.binds fun _ _ _ _ _ _ us hl => match us, hl with | [_], _ => rfl)
  have mR : Md P w K mg base 1 C "rules" (spRules C) := m.rules.md (fun f fd F => ok_mrules F T.toWds cn) (fun f fd F => F.binds fun _ _ _ _ _ _ us hl => match us, hl with | [_], _ => rfl)
  have mN : Md P w K mg base 1 C "names" (spMNames C) := m.names.md (fun f fd F => ok_mnames F cn) (fun f fd F => F.binds fun _ _ _ _ _ _ us hl => match us, hl with | [_], _ => rfl)
  have mH : Md P w K mg base 2 C "has_name" (spMHas C) := m.has.md (fun f fd F => ok_mhas F cn fName) (fun f fd F => F.binds fun _ _ _ _ _ _ us hl => match us, hl with | [_, _], _ => rfl)
  have mI : Md P w K mg base 3 C "index" (spMIndex C) := m.index.md (fun f fd F => ok_mindex F cn mH) (fun f fd F => F.binds fun _ _ _ _ _ _ us hl => match us, hl with | [_, _], _ => rfl)
  have mPe : Md P w K mg base 1 C "period" (spMPeriod C) := m.period.md (fun f fd F => ok_mperiod F cn c.lcm) (fun f fd F => F.binds fun _ _ _ _ _ _ us hl => match us, hl with | [_], _ => rfl)
  have mCk : Md P w K mg base 4 C "clock" (spMClock C) := m.clock.md (fun f fd F => ok_mclock F cn mI) (fun f fd F => F.binds fun _ _ _ _ _ _ us hl => match us, hl with | [_, _], _ => rfl)
  have M : Meths P w K mg base C := ⟨mP, mR, mN, mI, mPe⟩
  have fPup : Cf P w K mg base 1 "up" spPUp := A.pup.cf (fun f fd F => ok_pup F) fun f fd F => F.binds fun _ _ _ _ _ _ us hl => match us, hl with | [_, _], _ => rfl
  have fNum : Cf P w K mg base 2 "is_number" spIsNum := A.isNum.cf (fun f fd F => ok_isNum F fInt2) fun f fd F => F.binds fun _ _ _ _ _ _ us hl => match us, hl with | [_], _ => rfl
  have fEnd : Cf P w K mg base 4 "end_of_walk" (spEnd K C) := A.end_.cf (fun f fd F => ok_end F T.toWds cn M fNum) fun f fd F => F.binds fun _ _ _ _ _ _ us hl => match us, hl with | [_, _, _], _ => rfl
  have fLed : Cf P w K mg base 5 "led" (spLed K C) := A.led.cf (fun f fd F => ok_led F cn M mCk fEnd fPup) fun f fd F => F.binds fun _ _ _ _ _ _ us hl => match us, hl with | [_, _, _, _], _ => rfl
  have xLed : CfX P w K mg base 5 "led" (spLedX K C CW) := A.led.cfx (fun f fd F => ok_ledX F OW cn M mCk fEnd fPup) fun f fd F => F.binds fun _ _ _ _ _ _ us hl => match us, hl with | [_, _, _, _], _ => rfl
  have fWR : Cf P w K mg base 6 "with_rules" (spWR C) := A.wr.cf (fun f fd F => ok_wr F T.toWds cn M mkr) fun f fd F => F.binds fun _ _ _ _ _ _ us hl => match us, hl with | [_, _], _ => rfl
  have fWO : Cf P w K mg base 6 "without_rule" (spWO C) := A.wo.cf (fun f fd F => ok_wo F cn M mkr) fun f fd F => F.binds fun _ _ _ _ _ _ us hl => match us, hl with | [_, _], _ => rfl
  have cP : Cb P w K mg base 1 "_law_pick" spPick := A.pick.cb (fun f fd F => ok_pick F N.zlen N.zmax N.zint) fun f fd F => F.binds fun _ _ _ _ _ _ us hl => match us, hl with | [_, _], _ => rfl
  have cO : Cb P w K mg base 2 "_law_of" spOf := A.of.cb (fun f fd F => ok_of F N.zlen cP) fun f fd F => F.binds fun _ _ _ _ _ _ us hl => match us, hl with | [_, _], _ => rfl
  have cSrc : Cb P w K mg base 1 "_law_source" (spSource K) := A.source.cb (fun f fd F => ok_source F N.zabs N.zint) fun f fd F => F.binds fun _ _ _ _ _ _ us hl => match us, hl with | [_], _ => rfl
  have cN : Cb P w K mg base 2 "_law_names" spNames := A.names.cb (fun f fd F => ok_names F N.zrange N.zstr N.zint cP) fun f fd F => F.binds fun _ _ _ _ _ _ us hl => match us, hl with | [_, _], _ => rfl
  have cU : Cb P w K mg base 1 "_law_up" spLUp := A.up.cb (fun f fd F => ok_up F T) fun f fd F => F.binds fun _ _ _ _ _ _ us hl => match us, hl with | [_, _], _ => rfl
  have cI : Cb P w K mg base 1 "_law_is_integer" spIsInt := A.lInt.cb (fun f fd F => ok_lInt F T) fun f fd F => F.binds fun _ _ _ _ _ _ us hl => match us, hl with | [_], _ => rfl
  have cS : Cb P w K mg base 3 "_law_steps" spSteps := A.steps.cb (fun f fd F => ok_steps F cO) fun f fd F => F.binds fun _ _ _ _ _ _ us hl => match us, hl with | [_], _ => rfl
  have cNet : Cb P w K mg base 4 "_law_net" spNet := A.net.cb (fun f fd F => ok_net F T cP cO cN cS) fun f fd F => F.binds fun _ _ _ _ _ _ us hl => match us, hl with | [_, _, _], _ => rfl
  have cFar : Cb P w K mg base 4 "_law_far_net" spFar := A.far.cb (fun f fd F => ok_far F T cP cO cN) fun f fd F => F.binds fun _ _ _ _ _ _ us hl => match us, hl with | [_, _, _], _ => rfl
  have cPl : Cb P w K mg base 1 "_law_place" spPlace := A.place.cb (fun f fd F => ok_place F) fun f fd F => F.binds fun _ _ _ _ _ _ us hl => match us, hl with | [_, _], _ => rfl
  have cCl : Cb P w K mg base 2 "_law_clock_of" spClockOf := A.clockOf.cb (fun f fd F => ok_clockOf F cPl) fun f fd F => F.binds fun _ _ _ _ _ _ us hl => match us, hl with | [_, _], _ => rfl
  have cPer : Cb P w K mg base 1 "_law_period" spPeriod := A.period.cb (fun f fd F => ok_period F T) fun f fd F => F.binds fun _ _ _ _ _ _ us hl => match us, hl with | [_], _ => rfl
  have cRis : Cb P w K mg base 3 "_law_risen" spRisen := A.risen.cb (fun f fd F => ok_risen F T cU cPer cPl cCl) fun f fd F => F.binds fun _ _ _ _ _ _ us hl => match us, hl with | [_, _], _ => rfl
  have cLl : Cb P w K mg base 3 "_law_led" spLLed := A.lled.cb (fun f fd F => ok_lled F cU cCl) fun f fd F => F.binds fun _ _ _ _ _ _ us hl => match us, hl with | [_, _, _], _ => rfl
  have cW : Cb P w K mg base 3 "_law_walk" spLWalk := A.walk.cb (fun f fd F => ok_lwalk F T cP cO) fun f fd F => F.binds fun _ _ _ _ _ _ us hl => match us, hl with | [_, _, _, _], _ => rfl
  have cIw : Cb P w K mg base 2 "_law_is_walk" (spIsWalk K) := A.isWalk.cb (fun f fd F => ok_isWalk F T cI) fun f fd F => F.binds fun _ _ _ _ _ _ us hl => match us, hl with | [_, _, _], _ => rfl
  have cNr : Cb P w K mg base 2 "_law_near" (spLNear K) := A.near.cb (fun f fd F => ok_lnear F T cP) fun f fd F => F.binds fun _ _ _ _ _ _ us hl => match us, hl with | [_, _, _], _ => rfl
  exact ok_law F (L1.code mf) TB T cn ⟨OW.m, ww⟩ A.told mkr cSrc cFar cNet cPer fWR.toB fWO.toB cO cP cW cCl cU cLl fLed.toB xLed cNr cIw cRis cPl
theorem finish {h : Heap} {fa : Addr} {q : Program} {n : Nat} (X : K.In h) (G : h.Ns mainGlobals mg) (mk : MkAt K mg "Network" C "Network.__init__" sInit) (cn : ClsN K C) (m : Ms7 K C) (OW : Easy K mg "NoWay" CW) (ww : PySem.W.exmOne K (.ref CW) (.ref CW) = some true) (one : tabs1 K "law" = true) (r1 : ((recsOf q).any fun e => e.name == "law") = true) (A : Defs7 K mg) (N : Nil7 mg) (c : Con7 mg) (nl : n ≤ 63) (ha : mg "law" = some (.ref fa)) :
    ∃ (fd : FuncData) (ts : List (Str × Addr × Addr)) (sp : Sp), (∀ t ∈ ts, LamT K mg t.1 t.2.1 t.2.2 ∧ ((recsOf q).any fun e => e.name == t.1) = true) ∧ (∀ (s : Shared) (u : Value), BindsTo s fd ⟨[u], []⟩ [("script", u)]) ∧
      (∀ (H : Hp) (a : Addr) (ns : List Int), ns.length ≤ n → (∀ t ∈ ts, H t.2.2 = some (.tbl #[])) → SqL K H a (ns.map V.int) → sp [.ref a] H (fun v _ => v = .bl true) E0) ∧
      ∀ base : Heap, K.In base → base.Ns mainGlobals mg → (∀ t ∈ ts, TabB base mg t.2.1 t.2.2) → FnG P w K mg base 9 fa fd ["script"] sp := by
  obtain ⟨c1, P1, L1⟩ := tabs1_of X G one
  obtain ⟨fd, b, F⟩ := the_law (P := P) (w := w) A N c cn mk m OW ww L1 ha
  refine ⟨fd, [("law", c1, P1)], spLaw K P1, ?_, b, ?_, ?_⟩
  · intro t mt
    cases List.mem_singleton.mp mt
    exact ⟨L1, r1⟩
  · intro H a ns few tb hS
    refine ⟨a, ns, rfl, hS, Nat.le_trans few nl, ?_, fun _ => rfl⟩
    intro p mp
    cases List.mem_singleton.mp mp
    exact TabS.nil (tb _ List.mem_cons_self)
  · intro base _ _ tb
    exact F base (tb _ List.mem_cons_self)
end
end K07

open PySem PySem.W PyProof.Rows
set_option maxRecDepth 100000 in
set_option maxHeartbeats 0 in
theorem PySem.Challenge.cw_roundticks_k07_whole_walks_led_holds : PySem.Challenge.rw_roundticks_k07_whole_walks_led.Holds := by
  w_on; o_law; k_head; (case hw => w_witness2)
  k_fill
  refine Rt.walk_gT (l := PySem.Challenge.rw_roundticks_k07_whole_walks_led) (k := 9) (x := "script") rfl (by decide) rfl ⟨rfl, by decide, by decide⟩ (fun w h Y => PySem.W.km_in_of Y) ?F
  case F =>
    intro w mg fa h KX G hmg
    refine' K07.finish KX G ?mk ?cn ?ms ?ou ?ww ?one ?r1 ?defs ?nils ?cons (by decide) hmg
    case mk =>
      refine' Rt.mkat_mk KX G ?n ?mk ?kc ?a ?i ?l ?c ?k
      (case n => k_is)
      (case mk => k_is)
      (case kc => k_is)
      (case a => k_is)
      (case i => k_is)
      (case l => k_is)
      (case c => k_is)
      (case k => k_is)
    case cn => (constructor; (constructor <;> k_is); all_goals (unfold L2.NoAttr; k_is))
    case ms =>
      constructor
      all_goals
        refine' Rt.mat_mk ?a ?i ?l ?c ?k
        (case a => k_is)
        (case i => k_is)
        (case l => k_is)
        (case c => k_is)
        (case k => k_is)
    case ou =>
      refine' Rt.easy_mk KX G ?ea ?ekp ?ecc ?eqq ?ety
      (case ea => k_is)
      (case ekp => k_is)
      (case ecc => (constructor <;> k_is))
      (case eqq => kernel_rfl)
      (case ety => k_is)
    case ww => first | kernel_rfl | k_is
    case one => kernel_rfl
    case r1 => kernel_rfl
    case defs =>
      constructor
      all_goals
        refine' Rt.at_mk KX G ?a ?l ?c ?k
        (case a => k_is)
        (case l => k_is)
        (case c => k_is)
        (case k => k_is)
    case nils =>
      constructor
      all_goals
        refine' PySem.W.mg_none_of KX G ?z
        (case z => k_is)
    case cons =>
      constructor
      (case let_ => exact ⟨_, PySem.W.mg_of KX G (by k_is)⟩)
      (case sgn => exact ⟨_, PySem.W.mg_of KX G (by k_is)⟩)
      (case lw => exact ⟨_, PySem.W.mg_of KX G (by k_is)⟩)
      (case gs => exact ⟨_, PySem.W.mg_of KX G (by k_is)⟩)
      (case lcm => exact PySem.W.mg_of KX G (by k_is))
