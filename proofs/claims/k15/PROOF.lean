import PyProof.Rows.All
import Wide.All
import OpenK.AllK
import Wide.FinOn
import PyProof.LongRange
import PyProof.ReprRoads
import HandS.Base
import HandS.Call
import HandS.List
import HandS.Words
import HandS.WordsList
import HandS.Ends
import HandS.Walk
import HandS.DictComp
import KE.KMathG
import HandS.Style
import HandS.TupAny
import HandS.ExcInit
import HandS.ExcValue
import HandS.ExcField
import HandS.ExcIs
import HandS.IsInst
import KE.KExcIs
import KE.KExcInit
import HandS.Dict
import HandS.WordsDict
import HandS.Wide
import HandS.Comp
import HandS.Text
import KE.DataMinMax
import HandS.Zip
import KE.KDictZip
import HandS.Conv
import HandS.OwnEq
import HandS.NoneIn
import HandS.SortInts
import HandS.Codes
import HandS.Lambda
import HandS.TryMany
import HandS.ExcOwn
import HandS.EndTab
import HandS.WordsExc
import HandS.Iter
import KE.GoesMore
import KE.GoesEnum
import KE.KExcLine
import PySem.Challenge.RW_roundticks_k15_leads_judged_and_asked
set_option Elab.async false
set_option linter.all false
set_option maxRecDepth 100000
set_option maxHeartbeats 8000000
/-! own rules: far ranges, repr of data, promises under known guards -/
namespace Rt
open PySem PySem.Spec L2
open PyProof.Rows hiding St
/-! ### a range between any two ints -/
theorem turn_far {P : Program} {w : World} {K : PySem.W.Frag} {tg : Expr} (c : Addr) (lo : Int) (n : Nat) :
    Turn P w K tg (Itr lo n) [c] c (fun i h => IsLongIter h c (lo + ((i : Nat) : Int) * 1) ((n : Int) - ((i : Nat) : Int)) 1) := by
  constructor
  · exact List.mem_singleton.mpr rfl
  · intro i h st b hb
    cases List.mem_singleton.mp hb
    exact ⟨_, st, fun v z => by injection z⟩
  · intro i h h' st kp
    exact kp c (List.mem_singleton.mpr rfl) _ st
  · rintro X rfl rfl rfl calm i pins s σ H E I fresh st more
    obtain ⟨g0, g1, g2, g3, g4, g5⟩ := fresh c (List.mem_singleton.mpr rfl)
    refine (Walks.longrange (prog := X.prog) (w := X.w) (I.ok.hd calm) c lo 1 n).item i s _ _ more st fun v h' tk hv st' kp => ?_
    obtain ⟨t, rfl⟩ := hv
    have J : Inv X pins σ H { s with heap := h', toks := tk } :=
      I.turned (fun b o nb e => kp b o (fun z => nb (List.mem_singleton.mp z)) e) g0 g1 g3 g4 g5
    refine ⟨_, rfl, go_of (n := "longrange_iterator") (s := { s with heap := h', toks := tk }) st' rfl rfl (by decide) ?_⟩
    refine ⟨.int (lo + (i : Int)), H, J, ⟨t, by rw [Int.mul_one]⟩, ⟨rfl, rfl⟩, st', fun b hb => (fresh b hb).1⟩
  · rintro X rfl rfl rfl calm i pins s σ H E I fresh st over
    obtain ⟨g0, g1, g2, g3, g4, g5⟩ := fresh c (List.mem_singleton.mpr rfl)
    have le : (n : Int) - (i : Int) ≤ 0 := by have q : n ≤ i := over; omega
    exact wpAny_pyNext_long_end (I.ok.hd calm) st le fun h' kp =>
      ⟨rfl, I.turned (t' := s.toks) (fun b o nb e => kp b o nb e) g0 g1 g3 g4 g5⟩
  · intro A i s Q E st q
    exact wpAny_pyIter_longiter st q
section
variable {X : Cx} {tg : Expr}
theorem far_it {pins : List (Addr × Obj)} {σ : St} {H : Hp} {s : Shared} {R : It → Hp → Prop} {E : Value → Shared → Prop} {lo hi : Int} {t u v : Tok} {tk : Nat}
    (I : Inv X pins σ H s) (q : R (Itr lo (hi - lo).toNat) H) :
    wpAny (model X.prog X.w) X.A (pyIter (.ref s.heap.objs.size)) (PIE X pins σ tg R) E
      { s with heap := s.heap.push { cls := .type "range", data := .fields #[.int lo t, .int hi u, .int 1 v] }, toks := tk } := by
  have J : Inv X pins σ H { s with heap := s.heap.push { cls := .type "range", data := .fields #[.int lo t, .int hi u, .int 1 v] }, toks := tk } :=
    I.kept fun b o e => Heap.get?_push_of_some _ e
  have ez : lo + (((0 : Nat)) : Int) * 1 = lo := by simp
  have en : (((hi - lo).toNat : Nat) : Int) - ((0 : Nat) : Int) = Builtin.Range.rangeSize lo hi 1 := by
    rw [rangeSize_one]
    split <;> omega
  have fr : ∀ (h2 : Heap) (tk2 : Nat) (b : Addr), Inv X pins σ H { s with heap := h2, toks := tk2 } → b = h2.objs.size → FpOk X pins H b := fun h2 tk2 b J2 e => by
    subst e
    exact J2.fpOk (Nat.le_refl _) (J2.hok.fresh (Nat.le_refl _))
  cases sm : Builtin.Range.small lo hi 1 with
  | true =>
    refine wpAny_pyIter_range (IsRange.new ..) sm ?_
    refine ⟨_, [_], _, Itr lo (hi - lo).toNat, H, rfl, J.kept (t' := tk) fun b o e => Heap.get?_push_of_some _ e, turn_range _ lo (hi - lo).toNat, ?_, fun b hb => fr _ tk b J (List.mem_singleton.mp hb), q⟩
    show IsRangeIter _ _ (lo + (((0 : Nat)) : Int) * 1) ((((hi - lo).toNat : Nat) : Int) - ((0 : Nat) : Int)) 1
    rw [ez, en]
    exact Heap.get?_push_size _ rfl
  | false =>
    refine wpAny_pyIter_longrange (IsRange.new ..) sm ?_
    refine ⟨_, [_], _, Itr lo (hi - lo).toNat, H, rfl, J.kept (t' := tk) fun b o e => Heap.get?_push_of_some _ e, turn_far _ lo (hi - lo).toNat, ?_, fun b hb => fr _ tk b J (List.mem_singleton.mp hb), q⟩
    show IsLongIter _ _ (lo + (((0 : Nat)) : Int) * 1) ((((hi - lo).toNat : Nat) : Int) - ((0 : Nat) : Int)) 1
    rw [ez, en]
    exact Heap.get?_push_size _ rfl
def iFar (ta : TA) : TI := fun σ H R => ta σ H fun vs H1 => ∃ i j : Int, vs = [.int i, .int j] ∧ R (Itr i (j - i).toNat) H1
/-- for x in range(a, b), of ints of any size -/
theorem pi_far {a b : Expr} {ta : TA} {p pos : Pos} (hg : Gl X "range") (hm : X.mg "range" = none) (ha : PA X [a, b] ta)
    (h1 : starEach [a, b] X.env = [(false, eval a X.env), (false, eval b X.env)] := by rfl) (h2 : starEach [b] X.env = [(false, eval b X.env)] := by rfl) :
    PI X tg (.Call (.Name "range" p) [a, b] [] pos) (iFar ta) := by
  constructor
  intro pins s σ H R I h
  have two := thn (ha.run pos pins s σ H _ I h) (Q' := fun us s1 => wpAny (model X.prog X.w) X.A (call (.type "range") us) (fun v s2 => wpAny (model X.prog X.w) X.A (pyIter v) (PIE X pins σ tg R) X.xe s2) X.xe s1)
    fun us s1 ⟨vs, H1, I1, r1, i, j, e, q⟩ => by
      subst e
      obtain ⟨u1, u2, rfl, ⟨t1, rfl⟩, ⟨t2, rfl⟩⟩ := vals2 r1
      exact call_range_2 (far_it I1 q)
  refine PyProof.Rows.Call_ (ld_blt I hg hm boot_range (PyProof.Rows.callWith_type1 two ?_ ?_))
  · rw [h1, h2]
  · rw [h2]; rfl
end
end Rt
namespace Rt
open PySem PySem.Spec L2
open PyProof.Rows hiding St
/-! ### promises of defs that are called where no guard stands -/
structure FnG (P : Program) (w : World) (K : PySem.W.Frag) (mg : Str → Option Value) (base : Heap) (k : Nat) (f : Addr) (fd : FuncData) (ps : List Str) (sp : Sp) : Prop where
  many : ∀ vs H Q E, sp vs H Q E → vs.length = ps.length
  go : ∀ (A : Around), A.guards = some [] → Room k A → ∀ (outer : List Env) (s : Shared) (H : Hp) (args : Args) (us : List Value) (vs : List V) (Q : VK) (E : XK), Env0 P w K mg base A outer s H →
    BindsTo s fd args (ps.zip us) → Vals vs us → sp vs H Q E → codeAny (model P w) A (.call (.ref f) args) (CR CX0 outer P w H s Q E) s
section
variable {P : Program} {w : World} {K : PySem.W.Frag} {mg : Str → Option Value} {base : Heap}
theorem okG {x qual : Str} {st : Stmt} {f : Addr} {fd : FuncData} {N ps : List Str} {k : Nat} {sp : Sp} (F : Fun K x qual st f fd) (S : FnScope N ps (defScope st))
    (many : ∀ vs H Q E, sp vs H Q E → vs.length = ps.length)
    (body : ∀ (cdv : Value) (A : Around) (outer : List Env) (s : Shared) (H : Hp) (vs : List V) (Q : VK) (E : XK), A.guards = some [] →
      Room k (A.deeper (envOfC qual (defScope st) s.heap.objs.size f cdv)) → sp vs H Q E →
      ∃ t, PSs (cxOf CX0 P w K mg base N qual (defScope st) f cdv A outer s H E).nox (defBody st) t ∧ t { nx := fun _ H' => Q .non H', rt := Q } (start N vs) H) :
    FnG P w K mg base (k + 1) f fd ps sp := by
  obtain ⟨oc, od, kV, doc, pm, an, cdv, ct, osl, rfl, lk, hcd⟩ := F.ex
  refine ⟨many, ?_⟩
  intro A hg room outer s H args us vs Q E e0 bt rv want
  have size := many vs H Q E want
  have kin : K.In s.heap := e0.mod.kin.keeps fun b o e => (e0.bs b o e).1
  have noLim : s.heap.NoLimit := e0.mod.nolimit.keeps fun b o e => (e0.bs b o e).1
  refine codeAny_call_function room.depth (kin _ _ lk) rfl S.co S.gen rfl (PySem.W.codeRec_of kin hcd) (bt _ _ _ _ ?_)
  refine wpAny_newFunctionEnv_cells S.kind ?_ ?_
  · rintro ⟨nm, val⟩ mem
    exact (S.par nm (List.of_mem_zip mem).1).imp id fun c => ⟨c, PySem.W.cellsFrom_some _ _ _ (.inl c)⟩
  · rintro env rfl s1 entry
    refine ⟨noLim.keeps entry.toInCall.keep, codeAny_func ?_⟩
    obtain ⟨t, ht, now⟩ := body cdv A outer s H vs Q E hg (room.deeper _) want
    have J := inv_start (CX := CX0) (E := E) S room.hd e0 size rv entry
    refine wpAny_mono (ht.nox.run [] s1 (start N vs) H _ J now) (fun way s2 out => ?_) fun _ _ z => z
    cases way with
    | ret u =>
      obtain ⟨v, σ2, H2, J2, ru, q2⟩ := out
      exact ⟨v, H2, J2.os, J2.bare, J2.base, J2.hok, ru, q2⟩
    | next =>
      obtain ⟨σ2, H2, J2, q2⟩ := out
      exact ⟨V.non, H2, J2.os, J2.bare, J2.base, J2.hok, rfl, q2⟩
    | brk => exact out.elim fun _ z => z.elim fun _ y => y.2.elim
    | cont => exact out.elim fun _ z => z.elim fun _ y => y.2.elim
end
/-- a def of the module that may be called by its name -/
structure Cb (P : Program) (w : World) (K : PySem.W.Frag) (mg : Str → Option Value) (base : Heap) (k : Nat) (x : Str) (sp : Sp) : Prop where
  ex : ∃ (f : Addr) (fd : FuncData) (ps : List Str), FnG P w K mg base k f fd ps sp ∧ mg x = some (.ref f) ∧ PySem.W.keepIn K (.ref f) = true ∧ Binds K fd ps []
section
variable {X : Cx} {k j : Nat} {x : Str} {sp : Sp} {p pos : Pos} {e : Expr} {es : List Expr} {t : TA}
theorem pe_k (c : Cb X.prog X.w X.K X.mg X.base k x sp) (hg : X.A.guards = some []) (hr : Room j X.A) (hk : k ≤ j) (hx : Gl X x) (ha : PA X (e :: es) t)
    (hdb : (x == ("__debug__" : Str)) = false := by decide) (he : starEach (e :: es) X.env = (false, eval e X.env) :: starEach es X.env := by rfl)
    (hpl : (backTo pos (starEach es X.env)).any (·.1) = false := by rfl) : PE X (.Call (.Name x p) (e :: es) [] pos) (tCall sp [] E0 t) := by
  obtain ⟨f, fd, ps, G, hm, kp, bd⟩ := c.ex
  constructor
  intro pins s σ H Q I want
  refine wpAny_Call_Name_kw (ld_glob I hx hm ?_ hdb)
  refine PySem.W.callWith_K (h₀ := X.base) I.ok.mod.kin kp (thn (ha.run pos pins s σ H _ I want) ?_) he hpl
  rintro us s1 ⟨vs, H1, J, rv, q⟩
  refine ⟨J.kIn, ?_⟩
  have q' : sp vs H1 Q E0 := by simpa using q
  have size : us.length = ps.length := by
    rw [← rv.length]
    exact G.many _ _ _ _ q'
  have b1 : BindsTo s1 fd ⟨us, []⟩ (ps.zip us) := by
    have z := bd s1 us J.kIn (by simpa using size)
    simpa using z
  refine wpAny_call (codeAny_mono (G.go X.A hg (hr.mono hk) X.stack s1 H1 ⟨us, []⟩ us vs Q E0 J.env0 b1 rv q') ?_)
  intro r s2 out
  match r, out with
  | .error _, z => exact False.elim z
  | .ok (.ret u), z => exact J.after z
  | .ok .next, z => exact False.elim z
  | .ok .brk, z => exact False.elim z
  | .ok .cont, z => exact False.elim z
end
end Rt
namespace Rt
open PySem PySem.Spec L2
open PyProof.Rows hiding St
/-! ### the law's own call -/
abbrev isTrue1 (s₁ : Shared) : Result → Shared → Prop := fun r s' => r = .ok (.ret (.bool true)) ∧ OldK s₁.heap s'.heap ∧ s'.os = s₁.os ∧ AllBare s'.gens
/-- nothing but the script is tracked, at most -/
structure Bare (H : Hp) (h : Heap) (K : PySem.W.Frag) (a : Addr) : Prop where
  only : Only H
  here : ∀ b, H b ≠ none → b = a
  notK : H a ≠ none → K.lookup a = none
section
variable {P : Program} {w : World} {K : PySem.W.Frag} {mg mb : Str → Option Value} {k : Nat} {fa a : Addr} {fd : FuncData} {x : Str} {sp : Sp} {s₁ : Shared} {vs : List Value} {ns : List Int}
theorem bare_call {H : Hp} (B : Bare H s₁.heap K a) (ok : HOk P w H s₁.heap) (KX : K.In s₁.heap) (hns : s₁.heap.Ns mainGlobals mg) (hb : s₁.heap.Ns builtinsNs mb) (hbb : ∀ x : Str, x ≠ "__name__" → mb x = bootBuiltins x)
    (lim : s₁.heap.NoLimit) (gens : s₁.gens = #[]) (ha : s₁.heap.get? a = some { cls := .type "list", data := .seq vs.toArray }) (room : Room k callerA)
    (F : ∀ base : Heap, K.In base → base.Ns mainGlobals mg → FnG P w K mg base k fa fd [x] sp) (bind : ∀ (s : Shared) (u : Value), BindsTo s fd ⟨[u], []⟩ [(x, u)])
    (want : sp [.ref a] H (fun v _ => v = .bl true) E0) : codeAny (model P w) callerA (.call (.ref fa) ⟨[.ref a], []⟩) (isTrue1 s₁) s₁ := by
  -- an object that is no list is untracked
  have dictFree : ∀ {b : Addr} {o : Obj} {es : Array DictEntry} {ep : Nat}, s₁.heap.get? b = some o → o.data = .dict es ep → H b = none := by
    intro b o es ep hb hd
    by_cases z : H b = none
    · exact z
    · exfalso
      cases B.here b z
      rw [ha] at hb
      cases hb
      exact nomatch hd
  have kFree : ∀ {b : Addr} {o : Obj}, K.lookup b = some o → H b = none := by
    intro b o hb
    by_cases z : H b = none
    · exact z
    · exfalso
      cases B.here b z
      rw [B.notK z] at hb
      cases hb
  have names : ∀ {b : Addr} {m : Str → Option Value}, s₁.heap.Ns b m → (hidT s₁.heap H).Ns b m := by
    rintro b m ⟨o, es, ep, e, d, r⟩
    exact ⟨o, es, ep, hidT_get e (dictFree e d), d, r⟩
  have inBase : K.In (hidT s₁.heap H) := fun b o e => hidT_get (KX b o e) (kFree e)
  have noLim : (hidT s₁.heap H).NoLimit := by
    obtain ⟨mc, z1, z2⟩ := lim
    exact ⟨mc, names z1, z2⟩
  have e0 : Env0 P w K mg (hidT s₁.heap H) callerA [] s₁ H := by
    constructor
    · rfl
    · exact ⟨inBase, names hns, ⟨mb, names hb, hbb⟩, noLim⟩
    · exact fun b o e => of_hidT e
    · exact Nat.le_of_eq (hidT_size _ _)
    · exact True.intro
    · exact fun b hb => nomatch (show b ∈ ([] : List Addr) from hb)
    · exact ok
    · exact .of_eq gens
  have run := (F _ inBase (names hns)).go callerA rfl room [] s₁ H ⟨[.ref a], []⟩ [.ref a] [.ref a] _ _ e0 (bind s₁ (.ref a)) (.cons rfl .nil) want
  refine codeAny_mono run ?_
  intro r s2 out
  match r, out with
  | .error _, z => exact False.elim z
  | .ok .next, z => exact False.elim z
  | .ok .brk, z => exact False.elim z
  | .ok .cont, z => exact False.elim z
  | .ok (.ret u), ⟨v, H2, os, bare, un, ok2, ru, q⟩ =>
    obtain rfl : v = .bl true := q
    obtain rfl : u = Value.bool true := ru
    refine ⟨rfl, OldK.of_keep ?_, os, bare⟩
    intro b o e
    by_cases z : H b = none
    · exact un.keep b o e z (fun y => nomatch (show b ∈ ([] : List Addr) from y)) (fun y => nomatch (show b ∈ ([] : List Addr) from y))
    · rcases B.only b with y | ⟨ob, xs, y⟩
      · exact absurd y z
      · have e1 := (ok b _ y).1
        have e2 := (ok2 b _ (un.frzs b ob _ y)).1
        rw [e] at e1
        cases e1
        exact e2
theorem law_g (KX : K.In s₁.heap) (hns : s₁.heap.Ns mainGlobals mg) (hb : s₁.heap.Ns builtinsNs mb) (hbb : ∀ x : Str, x ≠ "__name__" → mb x = bootBuiltins x) (lim : s₁.heap.NoLimit) (gens : s₁.gens = #[])
    (ha : s₁.heap.get? a = some { cls := .type "list", data := .seq vs.toArray }) (nums : IntsAre vs ns) (fit : ns.length ≤ sizeLine) (room : Room k callerA)
    (F : ∀ base : Heap, K.In base → base.Ns mainGlobals mg → FnG P w K mg base k fa fd [x] sp) (bind : ∀ (s : Shared) (u : Value), BindsTo s fd ⟨[u], []⟩ [(x, u)])
    (want : ∀ H : Hp, Only H → SqL K H a (ns.map V.int) → sp [.ref a] H (fun v _ => v = .bl true) E0) :
    codeAny (model P w) callerA (.call (.ref fa) ⟨[.ref a], []⟩) (isTrue1 s₁) s₁ := by
  have rv := vals_ints nums
  have lv := nums.length
  rcases hk : K.lookup a with _ | o
  · -- the script is no object of the module's own
    let H : Hp := fun b => if b = a then some (.frz { cls := .type "list", data := .seq vs.toArray } (.lst (ns.map V.int))) else none
    have Ha : H a = some (.frz { cls := .type "list", data := .seq vs.toArray } (.lst (ns.map V.int))) := if_pos rfl
    have Hn : ∀ b, b ≠ a → H b = none := fun b z => if_neg z
    have only : Only H := fun b => by
      by_cases z : b = a
      · subst z
        exact .inr ⟨_, _, Ha⟩
      · exact .inl (Hn b z)
    have here : ∀ b, H b ≠ none → b = a := fun b z => by
      by_cases y : b = a
      · exact y
      · exact absurd (Hn b y) z
    have ok : HOk P w H s₁.heap := fun b u e => by
      by_cases y : b = a
      · subst y
        rw [Ha] at e
        cases e
        refine ⟨ha, ?_, vs, _, rv, ha⟩
        rw [List.length_map]
        exact fit
      · rw [Hn b y] at e
        cases e
    exact bare_call ⟨only, here, fun _ => hk⟩ ok KX hns hb hbb lim gens ha room F bind (want H only (.inl (.inr ⟨_, Ha⟩)))
  · have e := KX a o hk
    rw [ha] at e
    cases e
    have only : Only (fun _ => none) := fun _ => .inl rfl
    refine bare_call (H := fun _ => none) ⟨only, fun b z => absurd rfl z, fun z => absurd rfl z⟩ (fun b u e => nomatch e) KX hns hb hbb lim gens ha room F bind ?_
    refine want _ only (.inr ⟨_, vs.toArray, _, hk, rfl, rfl, rfl, ?_, by simpa using rv⟩)
    rw [List.size_toArray, lv]
    exact fit
theorem walk_g {l : PySem.W.OpenLaw} {n k : Nat} {q : Program} {loose : List Str} {XP : (Str → Option Value) → Heap → Prop} {YP : World → Heap → Prop} {d : DefRec} {K : Params → PySem.W.Frag} {sp : PySem.W.Frag → Sp} {x : Str}
    (hn : l.most = some n) (le : n ≤ sizeLine) (noDf : d.params.defaults = []) (room : Room k callerA) (hY : ∀ (w : World) (h : Heap), YP w h → (K w.params).In h)
    (F : ∀ (w : World) (mg : Str → Option Value) (fa : Addr) (h : Heap), (K w.params).In h → h.Ns mainGlobals mg → mg d.name = some (.ref fa) →
      ∃ fd : FuncData, (∀ (s : Shared) (u : Value), BindsTo s fd ⟨[u], []⟩ [(x, u)]) ∧
        ∀ base : Heap, (K w.params).In base → base.Ns mainGlobals mg → FnG l.prog w (K w.params) mg base k fa fd [x] (sp (K w.params)))
    (want : ∀ (K : PySem.W.Frag) (H : Hp) (a : Addr) (ns : List Int), ns.length ≤ n → SqL K H a (ns.map V.int) → sp K [.ref a] H (fun v _ => v = .bl true) E0) :
    PySem.W.WalkO q loose XP YP l.row.toRowW d [] (fun f vs => PySem.call f vs) := by
  refine Att.attach_call hn noDf ?_
  intro w s₀ s₁ mg mb fa o pm cd doc a vs ns G Y ho hd hcd hmg hobj nums few gens
  obtain ⟨fd, bind, each⟩ := F w mg fa _ (hY w _ Y) G.T.g hmg
  exact law_g (hY w _ Y) G.T.g G.T.b G.T.builtins G.T.nolimit gens hobj nums (Nat.le_trans few le) room each bind fun H _ hS => want _ H a ns few hS
end
end Rt
namespace Rt
open PySem PySem.Spec L2
open PyProof.Rows hiding St
/-! ### the defs as the top has left them -/
structure At (K : PySem.W.Frag) (mg : Str → Option Value) (x : Str) (st : Stmt) : Prop where
  ex : ∃ (f : Addr) (fd : FuncData), Fun K x x st f fd ∧ mg x = some (.ref f)
section
variable {P : Program} {w : World} {K : PySem.W.Frag} {mg : Str → Option Value} {base h : Heap} {x : Str} {st : Stmt}
theorem at_mk {f : Addr} {oc kV dc pm cd ct : Value} {od an : Option Addr} {sl : Array (Option Value)} (X : K.In h) (G : h.Ns mainGlobals mg) (a : PySem.W.nsIn K mainGlobals x = some (some (.ref f)))
    (l : K.lookup f = some ⟨oc, od, .func (PySem.W.fnOf x x (defArgs st) (defBody st) (defScope st) .none kV dc pm an cd ct), sl⟩) (c : PySem.W.codeIn K cd x = true) (k : PySem.W.keepIn K (.ref f) = true) : At K mg x st :=
  ⟨f, _, fun_mk l c k, PySem.W.mg_of X G a⟩
theorem At.cb {k : Nat} {ps : List Str} {sp : Sp} (A : At K mg x st) (ok : ∀ (f : Addr) (fd : FuncData), Fun K x x st f fd → FnG P w K mg base k f fd ps sp)
    (bd : ∀ (f : Addr) (fd : FuncData), Fun K x x st f fd → Binds K fd ps []) : Cb P w K mg base k x sp := by
  obtain ⟨f, fd, F, m⟩ := A.ex
  exact ⟨f, fd, ps, ok f fd F, m, F.kp, bd f fd F⟩
end
end Rt
namespace Rt
open PySem PySem.Spec L2
open PyProof.Rows hiding St
/-! ### defs that may be called under any guards -/
structure Cf (P : Program) (w : World) (K : PySem.W.Frag) (mg : Str → Option Value) (base : Heap) (k : Nat) (x : Str) (sp : Sp) : Prop where
  ex : ∃ (f : Addr) (fd : FuncData) (ps : List Str), FnOk P w K mg base CX0 k f fd ps sp ∧ mg x = some (.ref f) ∧ PySem.W.keepIn K (.ref f) = true ∧ Binds K fd ps []
section
variable {P : Program} {w : World} {K : PySem.W.Frag} {mg : Str → Option Value} {base : Heap} {k : Nat} {x : Str} {sp : Sp} {st : Stmt}
theorem Cf.toB (c : Cf P w K mg base k x sp) : Cb P w K mg base k x sp := by
  obtain ⟨f, fd, ps, F, m, kp, b⟩ := c.ex
  exact ⟨f, fd, ps, ⟨F.len, fun A _ r o s H a us vs Q E => F.run A o s H a us vs Q E r⟩, m, kp, b⟩
theorem At.cf {ps : List Str} (A : At K mg x st) (ok : ∀ (f : Addr) (fd : FuncData), Fun K x x st f fd → FnOk P w K mg base CX0 k f fd ps sp)
    (bd : ∀ (f : Addr) (fd : FuncData), Fun K x x st f fd → Binds K fd ps []) : Cf P w K mg base k x sp := by
  obtain ⟨f, fd, F, m⟩ := A.ex
  exact ⟨f, fd, ps, ok f fd F, m, F.kp, bd f fd F⟩
end
section
variable {X : Cx} {k j : Nat} {x : Str} {sp : Sp} {p pos : Pos} {e : Expr} {es : List Expr} {t : TA}
theorem pe_f (c : Cf X.prog X.w X.K X.mg X.base k x sp) (hr : Room j X.A) (hk : k ≤ j) (hx : Gl X x) (ha : PA X (e :: es) t)
    (hdb : (x == ("__debug__" : Str)) = false := by decide) (he : starEach (e :: es) X.env = (false, eval e X.env) :: starEach es X.env := by rfl)
    (hpl : (backTo pos (starEach es X.env)).any (·.1) = false := by rfl) : PE X (.Call (.Name x p) (e :: es) [] pos) (tCall sp [] E0 t) := by
  obtain ⟨f, fd, ps, F, hm, kp, bd⟩ := c.ex
  exact pe_call F (hr.mono hk) hx hm kp bd .nil (fun _ _ _ _ _ _ _ z => z.elim) ha hdb he hpl
end
end Rt
namespace Rt
open PySem PySem.Spec L2
open PyProof.Rows hiding St
/-! ### a dict comprehension over any walk -/
section
variable {J : It} {n : Nat} {G : Hp → Prop} {Y : Nat → Hp → V → Hp → Prop}
theorem dc_it (wk : Walk J n G Y) {g : TG} {tt : TT} {tk tv : TE} {vs : List Nat} {σ : L2.St} {H1 : Hp} {D : Addr} {Qd : Hp → Prop} (Pv : Nat → Hp → Prop) (start : Pv 0 (upd H1 D (.dK []))) (good : ∀ i H, i ≤ n → Pv i H → G H)
    (turn : ∀ i x H H', i < n → Pv i H → Y i H x H' → g x (wipe σ vs) H' fun σ2 H2 => wipe σ2 vs = wipe σ vs ∧ tt σ2 H2 fun b H3 =>
      if b = true then tk σ2 H3 fun y H4 => tv σ2 H4 fun z H5 => ∃ kvs k, y = kV k ∧ H5 D = some (.dK kvs) ∧ kvs.length < sizeLine ∧ Pv (i + 1) (upd H5 D (.dK (putK kvs k z))) else Pv (i + 1) H3) (fin : ∀ H, Pv n H → Qd H) :
    ∃ W : Nat → Nat → Hp → Prop, (∃ m, W 0 m (upd H1 D (.dK []))) ∧ ∀ i m H, W i m H →
      (J.stop i H ∧ Qd H) ∨ (J.go i H ∧ ∃ Nx : Hp → Prop, (∀ H', Nx H' → ∃ m', m' < m ∧ W (i + 1) m' H') ∧ ∀ x H', J.yld i H x H' → g x (wipe σ vs) H' fun σ2 H2 => wipe σ2 vs = wipe σ vs ∧ tt σ2 H2 fun b H3 =>
        if b = true then tk σ2 H3 fun y H4 => tv σ2 H4 fun z H5 => ∃ kvs k, y = kV k ∧ H5 D = some (.dK kvs) ∧ kvs.length < sizeLine ∧ Nx (upd H5 D (.dK (putK kvs k z))) else Nx H3) := by
  refine ⟨fun i m H => m + i = n ∧ Pv i H, ⟨n, rfl, start⟩, fun i m H ⟨e, p⟩ => ?_⟩
  have q := good i H (by omega) p
  rcases Nat.lt_or_ge i n with lt | ge
  · exact .inr ⟨wk.goes i H lt q, Pv (i + 1), fun H' p' => ⟨m - 1, by omega, by omega, p'⟩, fun x H' y => turn i x H H' lt p (wk.yields i H x H' lt q y)⟩
  · obtain rfl : i = n := by omega
    exact .inl ⟨wk.stops H q, fin H p⟩
end
/-! ### a tuple as a target within a comprehension -/
theorem pg_tk {X : Cx} {K : PySem.W.Frag} {es : List Expr} {k n : Nat} {t : TGs} {pos : Pos} (hK : X.K = K) (hc : X.calm = true) (h : PGs X es t) (hn : (assignEach es X.env).length = n) (hst : (assignEach es X.env).findIdx? (·.1) = none) : PG X (.Tuple es k pos) (gTup K n t) := by
  subst hK
  exact pg_tup hc h hn hst
/-! ### tuple(..) within a comprehension -/
def rTup (K : PySem.W.Frag) : List V → Hp → VK → Prop := fun vs H Q =>
  ∃ (b : Addr) (us : List V), vs = [.ref b] ∧ ((SqL K H b us ∧ ∀ n, H n = none → Q (.ref n) (upd H n (.tup us))) ∨ (SqT K H b us ∧ Q (.ref b) H))
theorem call_tupK {X : Cx} {K : PySem.W.Frag} (hK : X.K = K) : CallR X (.type "tuple") (rTup K) := by
  subst hK
  exact call_tuple_of
/-! ### name = {..: .. for ..} on one line -/
theorem sw_dict {a b : Expr} {gs : List Comprehension} {sc : Scope} {q qn : Pos} {n : Str} {line : Nat} {env : Env} (kind : env.scope.kind = .function) (loc : env.scope.names.lookup n = some .local) (same : (qn.line == q.line) = true)
    (other : (sc.names.any fun (m, k) => m == n && (k == .local || k == .cell)) = false) : swapsWith (.DictComp a b gs sc q) (some (.Name n qn)) line env = pure true := by
  have e1 : env.kindOf n = some .local := loc
  have e2 : env.blockKind = .function := by
    show env.blockKind = _
    unfold Env.blockKind
    rw [kind]
    rfl
  simp only [swapsWith, e1, e2, other, Expr.pos, same]
  rfl
theorem ps_setDc {X : Cx} {i : Nat} {n : Str} {qn q qs : Pos} {ke ve tg it : Expr} {cs : List Expr} {sc : Scope} {own : List (Str × Nat)} {wi : TI} {g : TG} {tt : TT} {tk tv : TE} (cm : X.calm = true) (nd : X.N.Nodup) (at_ : X.N[i]? = some n)
    (loc : X.env.scope.names.lookup n = some .local) (sw : swapsWith (.DictComp ke ve [⟨tg, it, cs, 0⟩] sc q) (some (.Name n qn)) qs.line X.env = pure true) (pi : PI X tg it wi) (bo : BlkOk X.N X.env.scope sc own)
    (pg : ∀ (s : Shared) (H : Hp) (C : Addr) (cl : List (Str × Addr)) (fp : List Addr), PG (X.blk s H sc (compEnvC sc cl C X.env) fp) tg g) (pt : ∀ (s : Shared) (H : Hp) (C : Addr) (cl : List (Str × Addr)) (fp : List Addr), PTs (X.blk s H sc (compEnvC sc cl C X.env) fp) cs tt)
    (pk : ∀ (s : Shared) (H : Hp) (C : Addr) (cl : List (Str × Addr)) (fp : List Addr), PE (X.blk s H sc (compEnvC sc cl C X.env) fp) ke tk)
    (pv : ∀ (s : Shared) (H : Hp) (C : Addr) (cl : List (Str × Addr)) (fp : List Addr), PE (X.blk s H sc (compEnvC sc cl C X.env) fp) ve tv) (fo : ∀ x, foldedSetIterable it X.env x = pure x := by intro _; rfl) :
    PS X (.Assign [.Name n qn] (.DictComp ke ve [⟨tg, it, cs, 0⟩] sc q) qs) (tAsg (tDc wi g tt tk tv (own.map (·.2))) (gName i)) := by
  constructor
  intro pins s σ H D I want
  rw [exec_Assign_Name_used _ _ _ _ sw]
  refine wpAny_bind (wpAny_standAt ?_)
  refine wpAny_bind ?_
  show wpAny _ X.A (do
    let _ ← comprehension (.DictComp ke ve [⟨tg, it, cs, 0⟩] sc q) sc X.env (firstIterPos [⟨tg, it, cs, 0⟩] q) newDict false (eval it X.env) (some (assign (.Name n qn) X.env))) _ _ s
  have want' : tDc wi g tt tk tv (own.map (·.2)) σ H (fun x H1 => gName i x σ H1 D.nx) := want
  refine wpAny_bind (thn (dc_core (Qf := fun _ z => SP X pins D .next z) cm nd I pi bo pg pt pk pv fo want' ?_) fun _ z y => wpAny_pure (wpAny_pure y))
  intro L C t m H' J now hn f
  show wpAny _ _ (assign (.Name n qn) X.env (.ref L)) _ _ _
  refine wpAny_assign_Name (store_ok2 (v := V.ref L) J nd at_ (.inl loc) rfl ?_ (.inr loc))
  intro u J2 ⟨b, only, hb⟩
  obtain ⟨f0, f1, f2, f3, f4, f5⟩ := f
  have away : C ≠ b := by
    rcases hb with z | z
    · exact z ▸ f1
    · exact fun e => f4 n b z e.symm
  refine ⟨m, hn.sameBut only away, fun h3 only3 => ⟨_, H', ?_, now⟩⟩
  exact J2.turned (t' := u.toks) (fun c o hc e => (only3.2 c hc).trans e) f0 f1 f3 f4 f5
/-! ### methods and makers that may be called under any guards -/
structure Md (P : Program) (w : World) (K : PySem.W.Frag) (mg : Str → Option Value) (base : Heap) (k : Nat) (C : Addr) (m : Str) (sp : Sp) : Prop where
  ex : ∃ (f : Addr) (fd : FuncData) (ps : List Str), Meth K C m f ∧ FnOk P w K mg base CX0 k f fd ps sp ∧ Binds K fd ps []
structure Mkr (P : Program) (w : World) (K : PySem.W.Frag) (mg : Str → Option Value) (base : Heap) (k : Nat) (C : Addr) (x : Str) (sp : Sp) : Prop where
  ex : ∃ (f : Addr) (fd : FuncData) (ps : List Str), L2.Mk K C f ∧ mg x = some (.ref C) ∧ FnOk P w K mg base CX0 k f fd ps sp ∧ Binds K fd ps []
section
variable {X : Cx} {k j : Nat} {C : Addr} {m x : Str} {sp : Sp} {p pos apos : Pos} {o e : Expr} {es : List Expr} {ta : TE} {t : TA}
theorem pe_m {pl : Sem Bool} (c : Cls X.K C) (M : Md X.prog X.w X.K X.mg X.base k C m sp) (hr : Room j X.A) (hk : k ≤ j) (he : PE X o ta) (ha : PA X (e :: es) t)
    (hst : starEach (e :: es) X.env = (false, eval e X.env) :: starEach es X.env := by rfl) (hpl : (backTo pos (starEach es X.env)).any (·.1) = false := by rfl)
    (ht : eval (.Call (.Attribute o m apos) (e :: es) [] pos) X.env = (do
      let ov ← eval o X.env
      standAt apos.atName
      let (f, first) ← holding [ov] (getMethod ov m pl)
      callWith pos f first (backTo pos (starEach (e :: es) X.env)) (backToKw pos (keywordEach [] X.env))) := by rfl) :
    PE X (.Call (.Attribute o m apos) (e :: es) [] pos) (tMeth C m sp [] E0 ta t) := by
  obtain ⟨f, fd, ps, hm, F, b⟩ := M.ex
  exact pe_meth he c hm F (hr.mono hk) b .nil (fun _ _ _ _ _ _ _ z => z.elim) ha hst hpl ht
theorem pe_m0' {pl : Sem Bool} (c : Cls X.K C) (M : Md X.prog X.w X.K X.mg X.base k C m sp) (hr : Room j X.A) (hk : k ≤ j) (he : PE X o ta)
    (ht : eval (.Call (.Attribute o m apos) [] [] pos) X.env = (do
      let ov ← eval o X.env
      standAt apos.atName
      let (f, first) ← holding [ov] (getMethod ov m pl)
      callWith pos f first (backTo pos (starEach [] X.env)) (backToKw pos (keywordEach [] X.env))) := by rfl) :
    PE X (.Call (.Attribute o m apos) [] [] pos) (tMeth C m sp [] E0 ta tNil) := by
  obtain ⟨f, fd, ps, hm, F, b⟩ := M.ex
  exact pe_meth0 he c hm F (hr.mono hk) b .nil (fun _ _ _ _ _ _ _ z => z.elim) ht
theorem pe_mkr (M : Mkr X.prog X.w X.K X.mg X.base k C x sp) (hr : Room j X.A) (hk : k + 1 ≤ j) (hg : Gl X x) (ha : PA X (e :: es) t)
    (hdb : (x == ("__debug__" : Str)) = false := by decide) (he : starEach (e :: es) X.env = (false, eval e X.env) :: starEach es X.env := by rfl) (hpl : (backTo pos (starEach es X.env)).any (·.1) = false := by rfl) :
    PE X (.Call (.Name x p) (e :: es) [] pos) (tMake C sp [] E0 t) := by
  obtain ⟨f, fd, ps, mk, hm, F, b⟩ := M.ex
  exact pe_make mk F (hr.mono hk) hg hm b .nil (fun _ _ _ _ _ _ _ z => z.elim) ha hdb he hpl
end
end Rt
namespace Rt
open PySem PySem.Spec L2
open PyProof.Rows hiding St
/-! ### a built-in function that stands among the names of the module -/
theorem pe_bg {X : Cx} {x : Str} {p pos : Pos} {e : Expr} {es : List Expr} {t : TA} {id : String} {r : List V → Hp → VK → Prop} (c : CallR X (.builtin id) r) (hx : Gl X x) (m : X.mg x = some (.builtin id)) (a : PA X (e :: es) t)
    (nodbg : (x == ("__debug__" : Str)) = false := by decide) (st : starEach (e :: es) X.env = (false, eval e X.env) :: starEach es X.env := by rfl)
    (pl : (backTo pos (starEach es X.env)).any (·.1) = false := by rfl) : PE X (.Call (.Name x p) (e :: es) [] pos) (tCB r t) := by
  constructor
  intro pins s σ H Q I want
  refine wpAny_Call_Name_kw (ld_glob I hx m ?_ nodbg)
  refine PyProof.Rows.callWith_builtin1 (thn (a.run pos pins s σ H _ I want) ?_) st pl
  rintro us s1 ⟨vs, H1, J, rv, q⟩
  exact c pins s1 σ H1 vs us Q J rv q
def rLcm : List V → Hp → VK → Prop := fun vs H Q => ∃ a b : Nat, vs = [.int a, .int b] ∧ a < 2 ^ 60 ∧ b < 2 ^ 60 ∧ Nat.lcm a b < 2 ^ 60 ∧ Q (.int (Nat.lcm a b : Nat)) H
theorem call_lcm {X : Cx} : CallR X (.builtin "math.lcm") rLcm := by
  intro pins s σ H vs us Q I rv want
  obtain ⟨a, b, rfl, ha, hb, hl, q⟩ := want
  obtain ⟨u1, u2, rfl, ⟨t1, rfl⟩, ⟨t2, rfl⟩⟩ := vals2 rv
  have e : ((((Nat.lcm 1 (a : Int).natAbs).lcm (b : Int).natAbs : Nat) : Int)) = ((Nat.lcm a b : Nat) : Int) := by
    rw [Int.natAbs_natCast, Int.natAbs_natCast, Nat.lcm_one_left]
  refine PySem.W.mg_lcm_v (by rw [Int.natAbs_natCast]; omega) (by rw [Int.natAbs_natCast]; omega) e ?_ ⟨.int _, H, I.tok _, ⟨_, rfl⟩, q⟩
  rw [Int.natAbs_natCast]
  have : (Nat.lcm a b).log2 < 60 := by
    rcases Nat.eq_zero_or_pos (Nat.lcm a b) with z | z
    · rw [z]
      decide
    · exact (Nat.log2_lt (by omega)).mpr hl
  exact Nat.lt_trans this (by decide)
end Rt
/-! own rules: a tuple turned round by a slice -/
namespace Rt
open PySem PySem.Spec L2
open PyProof.Rows hiding St
section
variable {prog : Program} {w : World} {A : Around} {E : Value → Shared → Prop} {s : Shared}
theorem slice_back {sl : Addr} {v1 v2 v3 : Value} {n : Nat} {Q : Int × Int × Nat → Shared → Prop} (isS : s.heap.IsSliceOf sl v1 v2 v3) (p1 : IsPart v1 none) (p2 : IsPart v2 none) (p3 : IsPart v3 (some (-1))) (now : Q ((n : Int) - 1, -1, n) s) :
    wpAny (model prog w) A (Builtin.Slice.sliceApplied (.ref sl) (pure (n : Int))) Q E s := by
  obtain ⟨ob, hob, cls, dat⟩ := id isS
  cases p1
  cases p2
  cases p3 with
  | int _ tk =>
    unfold Builtin.Slice.sliceApplied
    unfold Builtin.Slice.sliceFields
    refine wpAny_bind (wpAny_bind (wpAny_field hob dat (x := .none) rfl (wpAny_bind (wpAny_field hob dat (x := .none) rfl (wpAny_bind (wpAny_field hob dat (x := .int (-1) tk) rfl (wpAny_pure ?_)))))))
    refine wpAny_bind (slicePart_int ?_)
    show wpAny _ _ (if ((-1 : Int) == 0) = true then _ else _) _ _ s
    rw [if_neg (by decide)]
    refine wpAny_bind (slicePart_none (wpAny_bind (slicePart_none (wpAny_bind (wpAny_pure ?_)))))
    show wpAny _ _ (pure ((n : Int) - 1, (-1 : Int), Builtin.Slice.slicePlaces ((n : Int) - 1) (-1) (-1))) _ _ s
    have e : Builtin.Slice.slicePlaces ((n : Int) - 1) (-1) (-1) = n := by
      unfold Builtin.Slice.slicePlaces
      rw [if_neg (by decide)]
      split
      · rw [show (-(-1 : Int)) = 1 by decide, Int.ediv_one]
        omega
      · omega
    rw [e]
    exact wpAny_pure now
theorem pick_all {α : Type} : ∀ (n : Nat) (f : Nat → Option α) (ys : List α), ys.length = n → (∀ k, k < n → f k = ys[k]?) → (List.range n).filterMap f = ys
  | 0, f, ys, l, _ => by
    rw [List.eq_nil_of_length_eq_zero l]
    rfl
  | n + 1, f, ys, l, h => by
    rw [List.range_succ, List.filterMap_append, pick_all n f (ys.take n) (by rw [List.length_take]; omega) (fun k hk => by rw [h k (by omega), List.getElem?_take_of_lt hk])]
    have e := h n (Nat.lt_succ_self n)
    have lt : n < ys.length := by omega
    rw [List.getElem?_eq_getElem lt] at e
    have all : ys.take (n + 1) = ys := List.take_of_length_le (by omega)
    rw [List.take_succ, List.getElem?_eq_getElem lt] at all
    show ys.take n ++ [n].filterMap f = ys
    rw [show [n].filterMap f = [ys[n]] by simp [e]]
    exact all
theorem back_pick (xs : Array Value) : ((List.range xs.size).filterMap fun (k : Nat) => xs[((xs.size : Int) - 1 + (k : Int) * (-1)).toNat]?).toArray = xs.toList.reverse.toArray := by
  congr 1
  refine pick_all _ _ _ (by rw [List.length_reverse, Array.length_toList]) fun k lt => ?_
  rw [List.getElem?_reverse (by rw [Array.length_toList]; exact lt), Array.length_toList, Array.getElem?_toList]
  congr 1
  omega
theorem item_back {t sl : Addr} {items : Array Value} {v1 v2 v3 : Value} {Q : Value → Shared → Prop} (htp : IsTup s.heap t items) (isS : s.heap.IsSliceOf sl v1 v2 v3) (p1 : IsPart v1 none) (p2 : IsPart v2 none) (p3 : IsPart v3 (some (-1)))
    (now : Q (.ref s.heap.objs.size) { s with heap := s.heap.push { cls := .type "tuple", data := .seq items.toList.reverse.toArray } }) (small : items.size ≤ sizeLine) : wpAny (model prog w) A (getItem (.ref t) (.ref sl)) Q E s := by
  have fits : sizeOk (.seq items.toList.reverse.toArray) := by
    show items.toList.reverse.toArray.size ≤ sizeLine
    rw [List.size_toArray, List.length_reverse, Array.length_toList]
    exact small
  obtain ⟨ob, hob, cls, dat⟩ := id isS
  have isT : s.TypeIs (.ref sl) "slice" := ⟨ob, hob, cls⟩
  unfold getItem
  try with_reducible refine wpAny_holding ?_
  first | refine wpAny_bind (wpAny_pure ?_) | skip
  refine wpAny_bind (wpAny_sequenceKey htp.typeIs (by decide) ?_)
  refine wpAny_bind (wpAny_callSpecial?_slot (name := Str.ofString "__getitem__") htp.typeIs PyProof.Rows.slot_tuple_getitem (wpAny_call_entry PyProof.Rows.slot_tuple_getitem htp.typeIs entry_tuple_getitem ?_ (args_tuple_getitem _ _)))
  show wpAny _ _ (Builtin.Tuple.tupleItemsOf (.ref t) >>= _) _ _ s
  refine wpAny_bind (tupleItemsOf_ htp (wpAny_bind (wpAny_typeOf isT ?_)))
  rw [if_pos (by decide)]
  refine wpAny_bind (slice_back isS p1 p2 p3 ?_)
  have no : ¬ ((((items.size : Int) - 1 == 0) && ((-1 : Int) == 1) && (items.size == items.size)) = true) := by
    rw [show ((-1 : Int) == 1) = false by decide, Bool.and_false, Bool.false_and]
    exact Bool.false_ne_true
  show wpAny _ _ (if (((items.size : Int) - 1 == 0) && ((-1 : Int) == 1) && (items.size == items.size)) = true then _ else _) _ _ s
  rw [if_neg no, back_pick]
  first
    | exact wpAny_bind (m := Builtin.Tuple.tupleExact _) (wpAny_newObj_type (wpAny_pure ⟨_, rfl, wpAny_pure now⟩) fits)
    | exact wpAny_bind (m := Builtin.Tuple.tupleExact _) (wpAny_newObj_type (wpAny_bind (wpAny_pure (wpAny_pure ⟨_, rfl, wpAny_pure now⟩))) fits)
    | exact wpAny_bind (wpAny_bind (m := Builtin.Tuple.tupleExact _) (wpAny_newObj_type (wpAny_pure (wpAny_pure ⟨_, rfl, wpAny_pure now⟩)) fits))
    | exact wpAny_bind (wpAny_bind (m := Builtin.Tuple.tupleExact _) (wpAny_newObj_type (wpAny_pure ⟨_, rfl, wpAny_pure now⟩) fits))
end
def tBack (K : PySem.W.Frag) (te : TE) : TE := fun σ H Q => te σ H fun x H1 => ∃ (b : Addr) (us : List V), x = .ref b ∧ SqT K H1 b us ∧ ∀ n, H1 n = none → Q (.ref n) (upd H1 n (.tup us.reverse))
theorem pe_back {X : Cx} {e : Expr} {te : TE} {k : Nat} {q1 q2 q3 q : Pos} (he : PE X e te) : PE X (.Subscript e (.Slice none none (some (.UnaryOp .USub (.Constant (.int 1) k q1) q2)) q3) q) (tBack X.K te) := by
  constructor
  intro pins s σ H Q I want
  refine Subscript_ (thn (he.run pins s σ H _ I want) ?_)
  rintro v s1 ⟨x, H1, I1, r1, b, us, rfl, hb, now⟩
  cases r1
  have neg : PO X (some (.UnaryOp .USub (.Constant (.int 1) k q1) q2)) (tPart (tUn (rU fun i => .int (-i)) (tC (.int 1)))) := po_some (pe_un un_neg pe_int)
  refine wpAny_Slice (thn (po_none.run pins s1 σ H1 (fun o H2 => o = none ∧ H2 = H1) I1 ⟨rfl, rfl⟩) ?_)
  rintro w1 s2 ⟨_, H2, I2, p1, rfl, rfl⟩
  refine thn (po_none.run pins s2 σ H2 (fun o H3 => o = none ∧ H3 = H2) I2 ⟨rfl, rfl⟩) ?_
  rintro w2 s3 ⟨_, H3, I3, p2, rfl, rfl⟩
  refine thn (neg.run pins s3 σ H3 (fun o H4 => o = some (-1) ∧ H4 = H3) I3 ⟨1, rfl, -1, rfl, rfl, rfl⟩) ?_
  rintro w3 s4 ⟨_, H4, I4, p3, rfl, rfl⟩
  have I5 : Inv X pins σ H4 { s4 with heap := s4.heap.push { cls := .type "slice", data := .fields #[w1, w2, w3] } } := I4.kept (t' := s4.toks) fun c oc z => Heap.get?_push_of_some _ z
  obtain ⟨its, rv, htp, small⟩ := I5.tuple hb
  have same := rv.length
  show wpAny (model X.prog X.w) X.A (subscriptTail e (.Slice none none (some (.UnaryOp .USub (.Constant (.int 1) k q1) q2)) q3) (.ref b) (.ref s4.heap.objs.size)) (EP X pins σ Q) X.xe { s4 with heap := s4.heap.push { cls := .type "slice", data := .fields #[w1, w2, w3] } }
  refine tail_any (ops := [.ref b, .ref s4.heap.objs.size]) htp.typeIs (PyProof.Rows.slot_tuple_getitem.lookup) ?_ (by with_unfolding_all rfl)
  refine item_back htp (Heap.IsSliceOf.new _ w1 w2 w3) p1 p2 p3 ?_ (by rw [List.size_toArray]; omega)
  refine ⟨.ref _, _, I5.laid (t' := s4.toks) (o := .tup us.reverse) (fun c oc z => Heap.get?_push_of_some _ z) (Nat.le_refl _) ?_, rfl, now _ (I5.hok.fresh (Nat.le_refl _))⟩
  exact ⟨by rw [List.length_reverse]; exact small, _, rv.reverse, IsTup.new _ _⟩
end Rt
namespace Rt
open PySem PySem.Spec L2
open PyProof.Rows hiding St
/-! ### repr of data -/
mutual
theorem dp_plain {K : PySem.W.Frag} {H : Hp} : ∀ (d : PyData) (v : V), Dp K H v d → d.hasDict = false
  | .none, _, _ => by simp only [PyData.hasDict]
  | .bool _, _, _ => by simp only [PyData.hasDict]
  | .int _, _, _ => by simp only [PyData.hasDict]
  | .str _, _, _ => by simp only [PyData.hasDict]
  | .list ds, _, h => by
    cases h with
    | lst _ ha =>
      simp only [PyData.hasDict]
      exact dp_plainAll ds _ ha
  | .tuple ds, _, h => by
    cases h with
    | tup _ ha =>
      simp only [PyData.hasDict]
      exact dp_plainAll ds _ ha
  | .dict _, _, h => by cases h
theorem dp_plainAll {K : PySem.W.Frag} {H : Hp} : ∀ (ds : List PyData) (vs : List V), DpAll K H vs ds → PyData.hasDictAll ds = false
  | [], _, _ => by simp only [PyData.hasDictAll]
  | d :: ds, _, h => by
    cases h with
    | cons h1 h2 => simp only [PyData.hasDictAll, dp_plain d _ h1, dp_plainAll ds _ h2, Bool.or_self]
end
def rRepr (K : PySem.W.Frag) : List V → Hp → VK → Prop := fun xs H Q => ∃ v d, xs = [v] ∧ Dp K H v d ∧ d.showable = true ∧ d.depth ≤ 60 ∧ d.shown.length ≤ sizeLine ∧ Q (.str d.shown) H
section
variable {X : Cx}
theorem call_repr (hg : X.A.guards = some []) (hu : X.A.units + 64 < cLine) : CallR X (.builtin "repr") (rRepr X.K) := by
  intro pins s σ H xs us Q I r h
  obtain ⟨v, d, rfl, hd, hs, hdep, hz, q⟩ := h
  obtain ⟨u, rfl, ru⟩ := vals1 r
  have np := dp_plain d v hd
  obtain ⟨as, rd⟩ := Dp.reads I d v u hd ru
  cases rd with
  | none => exact PySem.P.repr_of_none ⟨.str _, H, I.tok _, ⟨_, rfl⟩, by simpa only [PyData.shown] using q⟩
  | bool b => exact PySem.P.repr_of_bool ⟨.str _, H, I.tok _, ⟨_, rfl⟩, by simpa only [PyData.shown] using q⟩
  | int i t => exact PySem.P.repr_of_int (by simpa [PyData.showable] using hs) ⟨.str _, H, I.tok _, ⟨_, rfl⟩, by simpa only [PyData.shown] using q⟩
  | str x t => exact PySem.P.repr_of_str ⟨.str _, H, I.tok _, ⟨_, rfl⟩, by simpa only [PyData.shown] using q⟩ (by simpa only [PyData.shown] using hz)
  | list h1 h2 h3 h4 =>
    exact repr_of_reads' (.list h1 h2 h3 h4) hs (fun z => by rw [np] at z; cases z) hg (by omega) (fun _ _ e => e) (fun h' u tk kp => ⟨.str _, H, I.kept kp, ⟨u, rfl⟩, q⟩) hz
  | tuple h1 h2 h3 h4 =>
    exact repr_of_reads' (.tuple h1 h2 h3 h4) hs (fun z => by rw [np] at z; cases z) hg (by omega) (fun _ _ e => e) (fun h' u tk kp => ⟨.str _, H, I.kept kp, ⟨u, rfl⟩, q⟩) hz
  | dict => simp [PyData.hasDict] at np
end
end Rt
/-! own rules: exceptions as values, with attributes -/
namespace Rt
open PySem PySem.Spec L2
open PyProof.Rows hiding St
/-- an exception of the class at C stands at a; its attributes are fs -/
def Ex (H : Hp) (a C : Addr) (fs : List (Str × V)) : Prop := (fs = [] ∧ H a = some (exo a C none)) ∨ ∃ d, H a = some (exo a C (some d)) ∧ H d = some (exd d fs)
section
variable {X : Cx} {pins : List (Addr × Obj)} {σ : St} {H : Hp} {s : Shared} {a C : Addr} {fs : List (Str × V)}
/-- its object, and its own dict, if it has one -/
theorem ex_inst (I : Inv X pins σ H s) (e : Ex H a C fs) : ∃ (ox : Obj) (od : Option Obj), PySem.W.InstAt s.heap a ox C od ∧
    ∀ n v, fs.lookup n = some v → ∃ u o, od = some o ∧ PySem.W.lookIn n o = some (some u) ∧ L2.RelV v u := by
  rcases e with ⟨rfl, e⟩ | ⟨d, e, ed⟩
  · obtain ⟨t1, he⟩ := exo_at I.hok e
    exact ⟨_, none, ⟨he, rfl, rfl, trivial⟩, fun n v z => nomatch z⟩
  · obtain ⟨t1, he⟩ := exo_at I.hok e
    obtain ⟨mA, hns, rel⟩ := exd_at I.hok ed
    obtain ⟨od, ho, hl⟩ := lookIn_ns hns
    refine ⟨_, some od, ⟨he, rfl, rfl, ho⟩, fun n v z => ?_⟩
    obtain ⟨u, hu, ru⟩ := RelO.some_of (v := v) (o := mA n) (by rw [← z]; exact rel n)
    exact ⟨u, od, rfl, by rw [hl, hu], ru⟩
theorem ex_kit (C' : ExcC X.K C) : PySem.W.KitX X.K (.ref a) (.ref C) (fun h => ∃ ox od, PySem.W.InstAt h a ox C od) := by
  have hcl : (PySem.W.clsIn X.K C).isSome = true := by
    obtain ⟨cd, hc, _⟩ := PySem.W.any_some C'.hd
    rw [hc]
    rfl
  have Z := fun ox od => PySem.W.kitx_exc (x := a) (ox := ox) (od := od) hcl C'.hg C'.hk C'.hs C'.ha C'.hn C'.ht C'.hm
  exact ⟨fun _ _ x ⟨ox, od, p⟩ => (Z ox od).ty _ _ x p, fun _ _ x ⟨ox, od, p⟩ => (Z ox od).it _ _ x p, fun h tp dd its n sl x t => (Z default none).ne h tp dd its n sl x t, fun x ⟨ox, od, p⟩ k => (Z ox od).ca x p k⟩
end
/-- isinstance(e, c), isinstance(e, (c1, c2)) -/
def rIsX (K : PySem.W.Frag) : List V → Hp → VK → Prop := fun xs H Q => ∃ (a C : Addr) (fs : List (Str × V)), Ex H a C fs ∧ ExcC K C ∧
  ((∃ (c : V) (u : Value) (b : Bool), xs = [.ref a, c] ∧ ClsV c u ∧ PySem.W.kitOne K (.ref C) u = some b ∧ Q (.bl b) H) ∨
   (∃ (tp : Addr) (cs : List V) (us : List Value) (b : Bool), xs = [.ref a, .ref tp] ∧ H tp = some (.tup cs) ∧ Paired ClsV cs us ∧ PySem.W.kitAny K (.ref C) us = some b ∧ Q (.bl b) H))
section
variable {X : Cx}
theorem call_isX : CallR X (.builtin "isinstance") (rIsX X.K) := by
  intro pins s σ H xs us Q I r h
  obtain ⟨a, C, fs, e, CC, h⟩ := h
  obtain ⟨ox, od, J, _⟩ := ex_inst I e
  have no : (Value.ref a) ≠ .builtin "__main__.__loader__#opaque" := fun z => nomatch z
  rcases h with ⟨c, u, b, rfl, k, ek, q⟩ | ⟨tp, cs, ws, b, rfl, hT, k, ek, q⟩
  · obtain ⟨u1, u2, rfl, r1, r2⟩ := vals2 r
    cases r1
    cases k.eq r2
    exact PySem.W.kia_one (ex_kit CC) I.kIn ⟨ox, od, J⟩ ek no fun tk => ⟨.bl b, H, I.tok tk, rfl, q⟩
  · obtain ⟨u1, u2, rfl, r1, r2⟩ := vals2 r
    cases r1
    cases r2
    obtain ⟨_, its, rv, o, h1, h2, n, h3⟩ := (show ObjOk X.prog X.w H s.heap tp (.tup cs) from I.hok tp _ hT)
    cases ClsV.all k rv
    obtain ⟨oc, ode, dt, sl⟩ := o
    cases h2
    cases h3
    exact PySem.W.kia_tup (ex_kit CC) I.kIn ⟨ox, od, J⟩ h1 ek no fun tk => ⟨.bl b, H, I.tok tk, rfl, q⟩
/-- e.n of such an exception -/
def tXg (K : PySem.W.Frag) (n : Str) (te : TE) : TE := fun σ H Q => te σ H fun x H1 => ∃ (a C : Addr) (fs : List (Str × V)) (v : V), x = .ref a ∧ Ex H1 a C fs ∧ ExcC K C ∧ PySem.W.findIn K (.ref C) n = some none ∧ fs.lookup n = some v ∧ Q v H1
theorem pe_xg {e : Expr} {te : TE} {pos : Pos} {n : Str} (he : PE X e te) (hb : attributeBase e n X.env (eval e X.env) = eval e X.env := by rfl) : PE X (.Attribute e n pos) (tXg X.K n te) := by
  constructor
  intro pins s σ H Q I h
  refine attr_of hb (thn (he.run pins s σ H _ I h) ?_)
  rintro u s1 ⟨x, H1, J, rx, a, C, fs, v, rfl, ex, CC, hno, l, q⟩
  cases rx
  obtain ⟨ox, od, inst, look⟩ := ex_inst J ex
  obtain ⟨w, o, rfl, lu, rw'⟩ := look n v l
  exact HandSPX.exc_get J.kIn inst CC.hg CC.hk CC.hs (PySem.W.findObj_own CC.hd hno rfl lu) (handed_of rw') ⟨v, H1, J.tok _, rw', q⟩
end
end Rt
namespace Rt
open PySem PySem.Spec L2
open PyProof.Rows hiding St
section
open Builtin Builtin.ObjectAttr PySem.Calls
variable {prog : Program} {w : World} {A : Around} {R : Result → Shared → Prop} {hp : Heap} {g : Array GenState} {d : Drawn} {t : Nat} {os : OsState}
/-- the first attribute of an exception of one's own, whatever its built-in base is -/
theorem exc_first {K : PySem.W.Frag} {B : String} {bmB : List Value} {name : Str} {tk : Tok} {v : Value} {x C : Addr} {fv : Array Value}
    (SF : StoreFacts B bmB "object.__setattr__" "object") (kin : K.In hp) (hx : hp.get? x = some { cls := .ref C, data := .fields fv }) (over : PySem.W.excOver K C bmB = true) (no : PySem.W.findIn K (.ref C) name = some none) (hd : PySem.W.hasDictIn K C = true)
    (hq : ∀ h' tk' dx, (∀ b o, b ≠ x → hp.get? b = some o → h'.get? b = some o) → hp.objs.size ≤ dx → dx ≠ x → h'.get? x = some { cls := .ref C, dict := some dx, data := .fields fv } →
      h'.Ns1 dx (fun y => if y = name then some v else none) → R (.ok (.ret .none)) ⟨h', g, d, tk', os⟩) :
    codeAny (model prog w) A (.call (.builtin "object.__setattr__") ⟨[.ref x, .str name tk, v], []⟩) R ⟨hp, g, d, t, os⟩ := by
  have inst : PySem.W.InstAt hp x { cls := .ref C, data := .fields fv } C none := ⟨hx, rfl, rfl, trivial⟩
  have taker : PySem.W.takerIn K C name = some none := by
    unfold PySem.W.takerIn
    rw [no]
    rfl
  have far : x ≠ hp.objs.size := Nat.ne_of_lt (Heap.lt_size hx)
  obtain ⟨cd, hcd, hh⟩ := PySem.W.any_some hd
  refine PySem.W.osa_openX (s := ⟨hp, g, d, t, os⟩) SF kin inst over taker fun b => ?_
  have hcls : PySem.W.Looks (model prog w) hp (classData C) cd := PySem.W.looks_clsIn kin hcd
  obtain ⟨nm, bs, mro, ns, qn, hdc, sn, sb, ab, col, del⟩ := cd
  dsimp only at hh
  subst hh
  show wpAny _ _ (storeInOwnDict (.ref x) (.ref C) (.str name tk) name v b) _ _ _
  unfold storeInOwnDict ownDictForStores
  repeat (first | with_reducible refine HandSPX.store_in_new ?_ ?_ | with_reducible refine wpAny_loadPart_at hx ?_ | with_reducible refine hcls.at ?_ | wp_step)
  · exact ⟨_, #[], _, (Heap.get?_update_ne _ _ _ _ far.symm).trans (Heap.get?_push_at rfl rfl), rfl, fun e he => absurd he (by simp), fun _ => rfl⟩
  · intro h' tk' ns1 same
    have there : (hp.push { cls := .type "dict", data := .dict #[] }).get? x = some { cls := .ref C, data := .fields fv } := Heap.get?_push_of_some _ hx
    refine hq h' tk' hp.objs.size ?_ (Nat.le_refl _) far.symm ?_ ns1
    · intro b o nb ho
      exact (same.2 b (Nat.ne_of_lt (Heap.lt_size ho))).trans ((Heap.get?_update_ne _ _ _ _ nb).trans (Heap.get?_push_of_some _ ho))
    · exact (same.2 x far).trans (Heap.get?_update_self _ there rfl)
end
end Rt
namespace Rt
open PySem PySem.Spec L2
open PyProof.Rows hiding St
/-- a class of one's own over a built-in exception: its instances may be made, read, stored into -/
structure ExM (K : PySem.W.Frag) (C : Addr) (bmB : List Value) : Prop where
  over : PySem.W.excOver K C bmB = true
  sa : PySem.W.findIn K (.ref C) "__setattr__" = some (some (.builtin "object.__setattr__"))
  cc : ExcC K C
  kp : PySem.W.keepIn K (.ref C) = true
section
variable {X : Cx} {pins : List (Addr × Obj)} {σ : St} {H : Hp} {s : Shared} {a C : Addr} {f : Str} {y : V} {u : Value} {B : String} {bmB : List Value} {Q : Unit → Shared → Prop} {E : Value → Shared → Prop} {A : Around}
theorem ext_ne {φ : Heap → Prop} {o : HO} {b c : Addr} (h1 : H b = some (.ext φ)) (h2 : H c = some o) (d : ∀ ψ, o ≠ .ext ψ) : c ≠ b := fun z => by
  rw [z, h1] at h2
  exact d φ (Option.some.inj h2).symm
theorem set_first (SF : StoreFacts B bmB "object.__setattr__" "object") (M : ExM X.K C bmB) (no : PySem.W.findIn X.K (.ref C) f = some none) (I : Inv X pins σ H s) (e : H a = some (exo a C none)) (ry : L2.RelV y u)
    (h : ∀ dx s', H dx = none → dx ≠ a → Inv X pins σ (upd (upd H dx (exd dx [(f, y)])) a (exo a C (some dx))) s' → Q () s') : wpAny (model X.prog X.w) A (setAttr (.ref a) f u) Q E s := by
  obtain ⟨t1, there⟩ := exo_at I.hok e
  obtain ⟨hp, g, d, t, os⟩ := s
  refine PySem.W.set_plain (ox := { cls := .ref C, dict := none, data := .fields #[.ref t1, .none, .none, .none, .bool false, .none] }) (od := none) I.kIn ⟨there, rfl, rfl, trivial⟩ M.sa ?_
  refine exc_first SF I.kIn there M.over no M.cc.hd ?_
  intro h' tk' dx kp big apart hx ns1
  have fresh : H dx = none := I.hok.fresh big
  have old : ∀ {b : Addr} {o : Obj}, hp.get? b = some o → b ≠ dx := fun {b o} z => Nat.ne_of_lt (Nat.lt_of_lt_of_le (Heap.lt_size z) big)
  have free : ∀ {b : Addr}, H b = none → b ≠ a := fun {b} z y => by
    rw [y, e] at z
    cases z
  have keepsH : ∀ {b : Addr} {o : HO}, H b = some o → b ≠ a → (upd (upd H dx (exd dx [(f, y)])) a (exo a C (some dx))) b = some o := fun {b o} z nb => by
    rw [upd_ne nb, upd_ne (ne_of_none z fresh)]
    exact z
  have U : Un X.fs [] H (upd (upd H dx (exd dx [(f, y)])) a (exo a C (some dx))) hp h' := by
    constructor
    · exact fun b o z n _ _ => kp b o (free n) z
    · exact fun b o z n _ _ => ⟨o.slots, kp b o (free n) z⟩
    · intro b o z n _
      rw [upd_ne (free n), upd_ne (old z)]
      exact n
    · intro b o z _
      by_cases hb : b = a
      · subst hb
        exact ⟨_, hx⟩
      · exact ⟨o, kp b o hb z⟩
    · exact fun b xs z => keepsH z (ext_ne e z (fun _ => nofun))
    · exact fun b o v z => keepsH z (ext_ne e z (fun _ => nofun))
    · exact fun b ps z => ⟨#[], by rw [keepsH z (ext_ne e z (fun _ => nofun))]; simp⟩
  refine h dx _ fresh apart (I.un (t' := tk') U ?_)
  intro b o z
  by_cases hb : b = a
  · subst hb
    rw [upd_same] at z
    cases z
    exact exo_ok hx
  · rw [upd_ne hb] at z
    by_cases hd : b = dx
    · subst hd
      rw [upd_same] at z
      cases z
      exact exd_ok ns1 (relO_put (fs := []) ry fun _ => True.intro)
    · rw [upd_ne hd] at z
      refine (I.hok b o z).stay (fun c v hc q => kp c v ?_ q) (fun c q => keepsH q (ext_ne e q (fun _ => nofun))) fun c xs q => keepsH q (ext_ne e q (fun _ => nofun))
      rcases hc with rfl | hc
      · exact hb
      · exact ext_ne e hc (fun _ => nofun)
end
/-- self.f = e, within the own __init__ -/
def tXs (K : PySem.W.Frag) (bmB : List Value) (f : Str) (to te : TE) : TS := fun D σ H => te σ H fun y H1 => to σ H1 fun x H2 => ∃ a C : Addr, x = .ref a ∧ ExM K C bmB ∧ PySem.W.findIn K (.ref C) f = some none ∧ H2 a = some (exo a C none) ∧
  ∀ dx, H2 dx = none → dx ≠ a → D.nx σ (upd (upd H2 dx (exd dx [(f, y)])) a (exo a C (some dx)))
section
variable {X : Cx} {o e : Expr} {to te : TE} {f : Str} {p p' pos : Pos} {B : String} {bmB : List Value} {es : List Expr} {ta : TA}
theorem ps_xs (SF : StoreFacts B bmB "object.__setattr__" "object") (ho : PE X o to) (he : PE X e te) (hs : swapsWith e (some (.Attribute o f p')) pos.line X.env = pure false := by rfl) : PS X (.Assign [.Attribute o f p'] e pos) (tXs X.K bmB f to te) := by
  constructor
  intro pins s σ H D I h
  refine plainObj_wpAny_Assign_Attribute (thn (he.run pins s σ H _ I h) ?_) hs
  rintro v s1 ⟨y, H1, J1, r1, q1⟩
  refine thn (ho.run pins s1 σ H1 _ J1 q1) ?_
  rintro u s2 ⟨x, H2, J2, r2, a, C, rfl, M, no, ea, q⟩
  cases r2
  exact set_first SF M no J2 ea r1 fun dx s' n ne J => ⟨σ, _, J, q dx n ne⟩
/-- C(e, ..), C's own __init__ keeping sp: the new exception as a value -/
def tXm (C : Addr) (sp : Sp) (ta : TA) : TE := fun σ H Q => ta σ H fun vs H1 => vs.length ≤ 1000 ∧ ∀ a, H1 a = none → sp (.ref a :: vs) (upd H1 a (exo a C none)) (fun v H2 => v = .non ∧ Q (.ref a) H2) E0
theorem pe_xm {x : Str} {C fI : Addr} {k : Nat} {fd : FuncData} {ps : List Str} {sp : Sp} {newId initId : String} (F : ExcBaseFacts B newId initId bmB) (M : ExM X.K C bmB) (ini : PySem.W.excInitIn X.K C bmB newId = true)
    (iC : PySem.W.findIn X.K (.ref C) "__init__" = some (some (.ref fI))) (tI : PySem.W.typeIn X.K (.ref fI) = some (.type "function")) (G : FnOk X.prog X.w X.K X.mg X.base CX0 k fI fd ps sp) (hr : Room (k + 1) X.A) (hb : Binds X.K fd ps [])
    (hg : Gl X x) (hm : X.mg x = some (.ref C)) (ha : PA X (e :: es) ta) (hdb : (x == ("__debug__" : Str)) = false := by decide) (he : starEach (e :: es) X.env = (false, eval e X.env) :: starEach es X.env := by rfl)
    (hpl : (backTo pos (starEach es X.env)).any (·.1) = false := by rfl) : PE X (.Call (.Name x p) (e :: es) [] pos) (tXm C sp ta) := by
  constructor
  intro pins s σ H Q I h
  refine wpAny_Call_Name_kw (ld_glob I hg hm ?_ hdb)
  refine PySem.W.callWith_K (h₀ := X.base) I.ok.mod.kin M.kp (thn (ha.run pos pins s σ H _ I h) ?_) he hpl
  rintro us s1 ⟨vs, H1, J, rv, few, q⟩
  refine ⟨J.kIn, ?_⟩
  show wpAny _ _ (call (.ref C) us) _ _ _
  obtain ⟨hp, g, dr, tk, os⟩ := s1
  obtain ⟨nm, N, qn, bs, bm, hdct, sn, sub, ab, col, dd, k0, k1, k2, k3, k5, hC, tail⟩ := PySem.W.excInit_of J.kIn ini
  have le : hp.objs.size ≤ hp.objs.size + 1 := Nat.le_succ _
  have hn : H1 (hp.objs.size + 1) = none := J.hok.fresh le
  have want := q (hp.objs.size + 1) hn
  have kept : ∀ b o, hp.get? b = some o → ((hp.push (PySem.W.kdv_tup us)).push (PySem.HandSPX.excO C hp.objs.size)).get? b = some o := fun b o z => Heap.get?_push_of_some _ (Heap.get?_push_of_some _ z)
  have got : ((hp.push (PySem.W.kdv_tup us)).push (PySem.HandSPX.excO C hp.objs.size)).get? (hp.objs.size + 1) = some (PySem.HandSPX.excO C hp.objs.size) := by heap_get
  have J2 : Inv X pins σ (upd H1 (hp.objs.size + 1) (exo (hp.objs.size + 1) C none)) ⟨(hp.push (PySem.W.kdv_tup us)).push (PySem.HandSPX.excO C hp.objs.size), g, dr, tk, os⟩ :=
    J.laid (t' := tk) kept le (exo_ok got)
  have r2 : Vals (V.ref (hp.objs.size + 1) :: vs) (Value.ref (hp.objs.size + 1) :: us) := .cons rfl rv
  have hl : (Value.ref (hp.objs.size + 1) :: us).length = ps.length := by
    rw [← r2.length]
    exact G.len _ _ _ _ want
  have hus : us.length ≤ sizeLine := by
    rw [← Paired.length rv, sizeLine_eq]
    omega
  have bt : BindsTo ⟨(hp.push (PySem.W.kdv_tup us)).push (PySem.HandSPX.excO C hp.objs.size), g, dr, tk, os⟩ fd ⟨Value.ref (hp.objs.size + 1) :: us, []⟩ (ps.zip (Value.ref (hp.objs.size + 1) :: us)) := by
    have z := hb _ (Value.ref (hp.objs.size + 1) :: us) J2.kIn (by simpa using hl)
    simpa using z
  refine wpAny_call (PySem.HandSPX.call_own F tail hC (PySem.W.looks_findIn J.kIn iC) (fun self => PySem.W.bind_fn J.kIn self tI) hus
    (codeAny_mono (G.run _ X.stack _ _ ⟨Value.ref (hp.objs.size + 1) :: us, []⟩ (Value.ref (hp.objs.size + 1) :: us) _ _ E0 (hr.make C us []) (J2.env0.make C us []) bt r2 want) ?_))
  intro r s2 out
  match r, out with
  | .error _, z => exact False.elim z
  | .ok .next, z => exact False.elim z
  | .ok .brk, z => exact False.elim z
  | .ok .cont, z => exact False.elim z
  | .ok (.ret u), z =>
    obtain ⟨v, H2, J3, ru, rfl, q3⟩ := J2.after z
    exact ⟨ru, ⟨.ref (hp.objs.size + 1), H2, J3, rfl, q3⟩⟩
/-- C(), C without an own __init__ -/
def tXn (C : Addr) : TE := fun _ H Q => ∀ a, H a = none → Q (.ref a) (upd H a (exo a C none))
theorem pe_xn {x : Str} {C : Addr} {newId initId : String} (F : ExcBaseFacts B newId initId bmB) (q : PySem.W.excIn X.K C bmB newId = true) (kp : PySem.W.keepIn X.K (.ref C) = true) (hg : Gl X x) (hm : X.mg x = some (.ref C))
    (hdb : (x == ("__debug__" : Str)) = false := by decide) : PE X (.Call (.Name x p) [] [] pos) (tXn C) := by
  constructor
  intro pins s σ H Q I h
  refine wpAny_Call_Name_kw (ld_glob I hg hm ?_ hdb)
  refine PySem.W.callWith_K0 I.kIn kp ?_
  obtain ⟨bm, N, nm, qn, bs, hdct, sn, sub, ab, col, dd, k0, k1, k2, k3, k5, mN, hC, hN, hni, T⟩ := exc_obj I.kIn q
  obtain ⟨hp, g, d, t, os⟩ := s
  refine wpAny_call_exc_subT F T hC hN hni (fun h' b made => ?_) (by show 0 ≤ sizeLine; omega)
  have hn : H b = none := I.hok.gone made.new
  obtain ⟨t1, there, _, _⟩ := made.there
  exact ⟨.ref b, _, I.laidN made.keeps made.new hn (exo_ok there), rfl, h b hn⟩
end
end Rt
/-! own rules: repr of data with dicts in it -/
namespace Rt
open PySem PySem.Spec L2
open PyProof.Rows hiding St
def kd : Key → PyData
  | .inl i => .int i
  | .inr x => .str x
mutual
inductive Dx (K : PySem.W.Frag) (H : Hp) : V → PyData → Prop
  | non : Dx K H .non .none
  | bl (b : Bool) : Dx K H (.bl b) (.bool b)
  | int (i : Int) : Dx K H (.int i) (.int i)
  | str (x : Str) : Dx K H (.str x) (.str x)
  | lst {a : Addr} {xs : List V} {ds : List PyData} : SqL K H a xs → DxAll K H xs ds → Dx K H (.ref a) (.list ds)
  | tup {a : Addr} {xs : List V} {ds : List PyData} : SqT K H a xs → DxAll K H xs ds → Dx K H (.ref a) (.tuple ds)
  | dic {a : Addr} {kvs : List (Key × V)} {ds : List PyData} : H a = some (.dK kvs) → DxAll K H (kvs.map (·.2)) ds → Dx K H (.ref a) (.dict ((kvs.map fun p => kd p.1).zip ds))
inductive DxAll (K : PySem.W.Frag) (H : Hp) : List V → List PyData → Prop
  | nil : DxAll K H [] []
  | cons {v : V} {vs : List V} {d : PyData} {ds : List PyData} : Dx K H v d → DxAll K H vs ds → DxAll K H (v :: vs) (d :: ds)
end
theorem DxAll.length {K : PySem.W.Frag} {H : Hp} : ∀ {vs : List V} {ds : List PyData}, DxAll K H vs ds → vs.length = ds.length
  | _, _, .nil => rfl
  | _, _, .cons _ t => congrArg (· + 1) t.length
/-- a value's data, where it stands, with what its repr rests on -/
structure Told (prog : Program) (w : World) (h : Heap) (u : Value) (d : PyData) : Prop where
  ex : ∃ as bs, Reads h u d as ∧ ReadAtMost h d.depth bs ∧ (d.showable = true → d.shown.length ≤ sizeLine → ReprK prog w bs h d.depth u d.shown)
structure ToldAll (prog : Program) (w : World) (h : Heap) (us : List Value) (ds : List PyData) : Prop where
  ex : ∃ as bs, ReadsAll h us ds as ∧ ReadAtMost h (PyData.depthAll ds) bs ∧
    (PyData.showableAll ds = true → (∀ t ∈ PyData.shownAll ds, t.length ≤ sizeLine) → ReprAllK prog w bs h (PyData.depthAll ds) us (PyData.shownAll ds))
section
variable {prog : Program} {w : World} {h : Heap}
theorem ToldAll.nil : ToldAll prog w h [] [] := ⟨[], [], .nil, (fun _ z => nomatch z), fun _ _ => by simp only [PyData.shownAll]; exact .nil⟩
theorem ToldAll.cons {u : Value} {d : PyData} {us : List Value} {ds : List PyData} (a : Told prog w h u d) (b : ToldAll prog w h us ds) : ToldAll prog w h (u :: us) (d :: ds) := by
  obtain ⟨as, bs, r, m, k⟩ := a.ex
  obtain ⟨as', bs', r', m', k'⟩ := b.ex
  refine ⟨_, bs ++ bs', .cons r r', ?_, fun hs hz => ?_⟩
  · simp only [PyData.depthAll]
    exact (m.mono (Nat.le_max_left _ _)).append (m'.mono (Nat.le_max_right _ _))
  · have hs' : d.showable = true ∧ PyData.showableAll ds = true := by simpa [PyData.showableAll] using hs
    have k1 := k hs'.1 (hz _ (by simp only [PyData.shownAll]; exact List.mem_cons_self ..))
    have k2 := k' hs'.2 fun t ht => hz t (by simp only [PyData.shownAll]; exact List.mem_cons_of_mem _ ht)
    simp only [PyData.depthAll, PyData.shownAll]
    exact .cons ((k1.more fun b z => List.mem_append_left _ z).level_le (Nat.le_max_left _ _)) (k2.more_le (fun b z => List.mem_append_right _ z) (Nat.le_max_right _ _))
theorem zip_fst : ∀ (ks : List PyData) (ds : List PyData), ks.length = ds.length → (ks.zip ds).map (·.1) = ks
  | [], _, _ => rfl
  | _ :: _, [], e => nomatch e
  | k :: ks, d :: ds, e => by
    show k :: ((ks.zip ds).map (·.1)) = k :: ks
    rw [zip_fst ks ds (Nat.succ.inj e)]
theorem zip_snd : ∀ (ks : List PyData) (ds : List PyData), ks.length = ds.length → (ks.zip ds).map (·.2) = ds
  | [], [], _ => rfl
  | [], _ :: _, e => nomatch e
  | _ :: _, [], e => nomatch e
  | k :: ks, d :: ds, e => by
    show d :: ((ks.zip ds).map (·.2)) = d :: ds
    rw [zip_snd ks ds (Nat.succ.inj e)]
theorem Told.list {a : Addr} {o : Obj} {us : List Value} {n : Nat} {ds : List PyData} (h1 : h.get? a = some o) (h2 : o.cls = .type "list") (h3 : o.data = .seq us.toArray n) (t : ToldAll prog w h us ds) : Told prog w h (.ref a) (.list ds) := by
  obtain ⟨as, bs, rs, m, k⟩ := t.ex
  have r : Reads h (.ref a) (.list ds) _ := .list h1 h2 h3 rs
  have out : a ∉ bs := not_mem_of_deeper r (by simp only [PyData.depth]; omega) m
  refine ⟨_, a :: bs, r, ReadAtMost.cons r (by simp only [PyData.depth]; omega) m, fun hs hz => ?_⟩
  have hz' : (listText (PyData.shownAll ds)).length ≤ sizeLine := by simpa only [PyData.shown] using hz
  have kk := k (by simpa [PyData.showable] using hs) fun t ht => Nat.le_trans (listText_mem_le ht) hz'
  simp only [PyData.depth, PyData.shown]
  cases us with
  | nil =>
    cases rs
    simp only [PyData.shownAll, listText_nil]
    exact (ReprK.listEmpty (as := bs) h1 h2 h3).more fun b z => List.mem_cons_of_mem _ z
  | cons x l => exact ReprK.list h1 h2 h3 out (by simpa using kk.length_eq) (fun i y e => kk.item i y (by simpa using e))
theorem Told.tuple {a : Addr} {o : Obj} {us : List Value} {n : Nat} {ds : List PyData} (h1 : h.get? a = some o) (h2 : o.cls = .type "tuple") (h3 : o.data = .seq us.toArray n) (t : ToldAll prog w h us ds) : Told prog w h (.ref a) (.tuple ds) := by
  obtain ⟨as, bs, rs, m, k⟩ := t.ex
  have r : Reads h (.ref a) (.tuple ds) _ := .tuple h1 h2 h3 rs
  have out : a ∉ bs := not_mem_of_deeper r (by simp only [PyData.depth]; omega) m
  refine ⟨_, a :: bs, r, ReadAtMost.cons r (by simp only [PyData.depth]; omega) m, fun hs hz => ?_⟩
  have hz' : (tupleText (PyData.shownAll ds)).length ≤ sizeLine := by simpa only [PyData.shown] using hz
  have kk := k (by simpa [PyData.showable] using hs) fun t ht => Nat.le_trans (tupleText_mem_le ht) hz'
  simp only [PyData.depth, PyData.shown]
  exact ReprK.tuple h1 h2 h3 out kk
theorem Told.dict {a : Addr} {o : Obj} {es : Array DictEntry} {n : Nat} {ks ds : List PyData} (h1 : h.get? a = some o) (h2 : o.cls = .type "dict") (h3 : o.data = .dict es n) (sys : (a == sysModules) = false) (le : ks.length = ds.length)
    (t1 : ToldAll prog w h (es.toList.map (·.key)) ks) (t2 : ToldAll prog w h (es.toList.map (·.val)) ds) : Told prog w h (.ref a) (.dict (ks.zip ds)) := by
  obtain ⟨as, bs, rs, m, k⟩ := t1.ex
  obtain ⟨as', bs', rs', m', k'⟩ := t2.ex
  have ek := zip_fst ks ds le
  have ev := zip_snd ks ds le
  have dk := PyData.depthAll_keys_le (ks.zip ds)
  have dv := PyData.depthAll_vals_le (ks.zip ds)
  rw [ek] at dk
  rw [ev] at dv
  have r : Reads h (.ref a) (.dict (ks.zip ds)) _ := .dict h1 h2 h3 (by rw [ek]; exact rs) (by rw [ev]; exact rs')
  have mm : ReadAtMost h (PyData.depthKv (ks.zip ds)) (bs ++ bs') := (m.mono dk).append (m'.mono dv)
  have out : a ∉ bs ++ bs' := not_mem_of_deeper r (by simp only [PyData.depth]; omega) mm
  refine ⟨_, a :: (bs ++ bs'), r, ReadAtMost.cons r (by simp only [PyData.depth]; omega) mm, fun hs hz => ?_⟩
  have hz' : (dictText (PyData.shownKv (ks.zip ds))).length ≤ sizeLine := by simpa only [PyData.shown] using hz
  obtain ⟨s1, s2⟩ := PyData.showableKv_split (ks.zip ds) (by simpa [PyData.showable] using hs)
  rw [ek] at s1
  rw [ev] at s2
  have k1 := k s1 fun t ht => by
    obtain ⟨p, hp, hl⟩ := PyData.shownKv_key_le (ks.zip ds) t (by rw [ek]; exact ht)
    exact Nat.le_trans hl (Nat.le_trans (dictText_mem_le hp) hz')
  have k2 := k' s2 fun t ht => by
    obtain ⟨p, hp, hl⟩ := PyData.shownKv_val_le (ks.zip ds) t (by rw [ev]; exact ht)
    exact Nat.le_trans hl (Nat.le_trans (dictText_mem_le hp) hz')
  simp only [PyData.depth, PyData.shown, PyData.shownKv_eq, ek, ev]
  exact ReprK.dict h1 h2 h3 sys out (ReprEntriesK.of_two es.toList _ _ (k1.more_le (fun b z => List.mem_append_left _ z) dk) (k2.more_le (fun b z => List.mem_append_right _ z) dv))
end
end Rt
namespace Rt
open PySem PySem.Spec L2
open PyProof.Rows hiding St
section
variable {X : Cx} {pins : List (Addr × Obj)} {σ : St} {H : Hp} {s : Shared}
theorem keys_told : ∀ {es : List DictEntry} {kvs : List (Key × V)} {vs : List (Key × Value)}, KV kvs vs → Pairs (mixKind X.prog X.w) es vs →
    ToldAll X.prog X.w s.heap (es.map (·.key)) (kvs.map fun p => kd p.1) ∧ Vals (kvs.map (·.2)) (es.map (·.val))
  | _, _, _, .nil, .nil => ⟨.nil, .nil⟩
  | e :: es, p :: kvs, q :: vs, .cons r t, .cons k v ps => by
    obtain ⟨a, b⟩ := keys_told t ps
    obtain ⟨ep, rv⟩ := r
    refine ⟨.cons ?_ a, .cons ?_ b⟩
    · have k' : keyIs p.1 e.key = true := by
        rw [ep]
        exact k
      show Told X.prog X.w s.heap e.key (kd p.1)
      rcases keyIs_shape k' with ⟨i, tk, e1, e2⟩ | ⟨x, tk, e1, e2⟩
      · rw [e1, e2]
        refine ⟨[], [], .int i tk, (fun _ z => nomatch z), fun hs hz => ?_⟩
        simp only [kd, PyData.shown]
        exact .of_is (ReprIs.int tk (by simpa [PyData.showable, kd] using hs)) _ _ _
      · rw [e1, e2]
        refine ⟨[], [], .str x tk, (fun _ z => nomatch z), fun hs hz => ?_⟩
        simp only [PyData.shown, kd] at hz ⊢
        exact .of_is (ReprIs.str x tk hz) _ _ _
    · show L2.RelV p.2 e.val
      rw [v]
      exact rv
mutual
theorem dx_told (I : Inv X pins σ H s) : ∀ (v : V) (d : PyData) (u : Value), Dx X.K H v d → L2.RelV v u → Told X.prog X.w s.heap u d
  | _, _, _, .non, r => by
    cases r
    exact ⟨[], [], .none, (fun _ z => nomatch z), fun _ _ => by simp only [PyData.shown]; exact .of_is ReprIs.none _ _ _⟩
  | _, _, _, .bl b, r => by
    cases r
    exact ⟨[], [], .bool b, (fun _ z => nomatch z), fun _ _ => by simp only [PyData.shown]; exact .of_is (ReprIs.bool b) _ _ _⟩
  | _, _, _, .int i, r => by
    obtain ⟨tk, rfl⟩ := r
    exact ⟨[], [], .int i tk, (fun _ z => nomatch z), fun hs _ => by simp only [PyData.shown]; exact .of_is (ReprIs.int tk (by simpa [PyData.showable] using hs)) _ _ _⟩
  | _, _, _, .str x, r => by
    obtain ⟨tk, rfl⟩ := r
    exact ⟨[], [], .str x tk, (fun _ z => nomatch z), fun _ hz => by
      simp only [PyData.shown] at hz ⊢
      exact .of_is (ReprIs.str x tk hz) _ _ _⟩
  | _, _, _, .lst hs ha, r => by
    cases r
    obtain ⟨its, rv, ⟨o, n, ho, hc, _, hd⟩, _⟩ := I.list hs
    exact Told.list ho hc hd (dx_toldAll I _ _ _ ha rv)
  | _, _, _, .tup hs ha, r => by
    cases r
    obtain ⟨its, rv, ⟨o, ho, hc, n, hd⟩, _⟩ := I.tuple hs
    exact Told.tuple ho hc hd (dx_toldAll I _ _ _ ha rv)
  | _, _, _, .dic (a := a) (kvs := kvs) (ds := ds) hs ha, r => by
    cases r
    obtain ⟨_, sys, vs, kv, o, es, ep, ho, hx, hd, _, ps, _⟩ := (show ObjOk X.prog X.w H s.heap a (.dK kvs) from I.hok a _ hs)
    obtain ⟨t1, rv⟩ := keys_told (s := s) kv ps
    exact Told.dict ho hx.1 hd sys (by rw [List.length_map, ← ha.length, List.length_map]) t1 (dx_toldAll I _ _ _ ha rv)
theorem dx_toldAll (I : Inv X pins σ H s) : ∀ (vs : List V) (ds : List PyData) (us : List Value), DxAll X.K H vs ds → Vals vs us → ToldAll X.prog X.w s.heap us ds
  | _, _, _, .nil, r => by
    cases r
    exact .nil
  | _, _, _, .cons h t, r => by
    cases r with
    | cons r1 r2 => exact .cons (dx_told I _ _ _ h r1) (dx_toldAll I _ _ _ t r2)
end
end
def rReprX (K : PySem.W.Frag) : List V → Hp → VK → Prop := fun xs H Q => ∃ v d, xs = [v] ∧ Dx K H v d ∧ d.showable = true ∧ d.depth ≤ 60 ∧ d.shown.length ≤ sizeLine ∧ Q (.str d.shown) H
section
variable {X : Cx}
/-- repr(v), v of data, also of dicts -/
theorem call_reprX (hg : X.A.guards = some []) (hu : X.A.units + 64 < cLine) : CallR X (.builtin "repr") (rReprX X.K) := by
  intro pins s σ H xs us Q I r h
  obtain ⟨v, d, rfl, hd, hs, dep, hz, q⟩ := h
  obtain ⟨u, rfl, ru⟩ := vals1 r
  have end0 : ∀ tk, EP X pins σ Q (.str d.shown s.toks) { s with toks := tk } := fun tk => ⟨.str d.shown, H, I.tok _, ⟨_, rfl⟩, q⟩
  have endH : ∀ h' u tk, (∀ b o, s.heap.get? b = some o → h'.get? b = some o) → EP X pins σ Q (.str d.shown u) { s with heap := h', toks := tk } := fun h' u tk kp => ⟨.str d.shown, H, I.kept kp, ⟨u, rfl⟩, q⟩
  have t := dx_told I _ _ _ hd ru
  cases hd with
  | non =>
    cases ru
    exact PySem.P.repr_of_none (by simpa only [PyData.shown] using end0 (s.toks + 1))
  | bl b =>
    cases ru
    exact PySem.P.repr_of_bool (by simpa only [PyData.shown] using end0 (s.toks + 1))
  | int i =>
    obtain ⟨tk, rfl⟩ := ru
    exact PySem.P.repr_of_int (by simpa [PyData.showable] using hs) (by simpa only [PyData.shown] using end0 (s.toks + 1))
  | str x =>
    obtain ⟨tk, rfl⟩ := ru
    exact PySem.P.repr_of_str (by simpa only [PyData.shown] using end0 (s.toks + 1)) (by simpa only [PyData.shown] using hz)
  | @lst a xs ds hl ha =>
    cases ru
    obtain ⟨its, rv, ⟨o, n, ho, hc, _, hdt⟩, _⟩ := I.list hl
    obtain ⟨as, bs, rs, m, k⟩ := (dx_toldAll I _ _ _ ha rv).ex
    have rd : Reads s.heap (.ref a) (.list ds) _ := .list ho hc hdt rs
    have out : a ∉ bs := not_mem_of_deeper rd (by simp only [PyData.depth]; omega) m
    have hz' : (listText (PyData.shownAll ds)).length ≤ sizeLine := by simpa only [PyData.shown] using hz
    have kk := k (by simpa [PyData.showable] using hs) fun t ht => Nat.le_trans (listText_mem_le ht) hz'
    simp only [PyData.depth] at dep
    simp only [PyData.shown] at endH
    refine call_repr_slot (by omega) ⟨o, ho, hc⟩ F.slot_list_repr.toG ?_
    have hu1 : X.A.in1.units + (PyData.depthAll ds + 1) < cLine := by
      show X.A.units + 1 + (PyData.depthAll ds + 1) < cLine
      omega
    cases its with
    | nil =>
      cases rs
      simp only [PyData.shownAll, listText_nil] at endH
      exact call_list_repr_empty ⟨o, ho, hc⟩ ho hdt ⟨_, _, rfl, endH s.heap _ _ fun _ _ e => e⟩
    | cons x l =>
      exact call_list_reprK ho hc hdt out (by simpa using kk.length_eq) (fun i y e => kk.item i y (by simpa using e)) hg (fun b _ => Clear.nil b) hu1 (fun _ _ e => e) (fun h' u tk kp => ⟨_, _, rfl, endH h' u tk kp⟩) hz'
  | @tup a xs ds hl ha =>
    cases ru
    obtain ⟨its, rv, ⟨o, ho, hc, n, hdt⟩, _⟩ := I.tuple hl
    obtain ⟨as, bs, rs, m, k⟩ := (dx_toldAll I _ _ _ ha rv).ex
    have rd : Reads s.heap (.ref a) (.tuple ds) _ := .tuple ho hc hdt rs
    have out : a ∉ bs := not_mem_of_deeper rd (by simp only [PyData.depth]; omega) m
    have hz' : (tupleText (PyData.shownAll ds)).length ≤ sizeLine := by simpa only [PyData.shown] using hz
    have kk := k (by simpa [PyData.showable] using hs) fun t ht => Nat.le_trans (tupleText_mem_le ht) hz'
    simp only [PyData.depth] at dep
    simp only [PyData.shown] at endH
    refine call_repr_slot (by omega) ⟨o, ho, hc⟩ F.slot_tuple_repr ?_
    have hu1 : X.A.in1.units + (PyData.depthAll ds + 1) < cLine := by
      show X.A.units + 1 + (PyData.depthAll ds + 1) < cLine
      omega
    exact call_tuple_reprK ho hc hdt out kk hg (fun b _ => Clear.nil b) hu1 (fun _ _ e => e) (fun h' u tk kp => ⟨_, _, rfl, endH h' u tk kp⟩) hz'
  | @dic a kvs ds hl ha =>
    cases ru
    obtain ⟨_, sys, vs, kv, o, es, ep, ho, hx, hdt, _, ps, _⟩ := (show ObjOk X.prog X.w H s.heap a (.dK kvs) from I.hok a _ hl)
    obtain ⟨t1, rv⟩ := keys_told (s := s) kv ps
    obtain ⟨as, bs, rs, m, k⟩ := t1.ex
    obtain ⟨as', bs', rs', m', k'⟩ := (dx_toldAll I _ _ _ ha rv).ex
    have le : (kvs.map fun p => kd p.1).length = ds.length := by rw [List.length_map, ← ha.length, List.length_map]
    clear end0 t
    revert rs m k le hs dep hz endH
    generalize (kvs.map fun p => kd p.1) = ks
    intro hs dep hz endH rs m k le
    have ek := zip_fst ks ds le
    have ev := zip_snd ks ds le
    have dk := PyData.depthAll_keys_le (ks.zip ds)
    have dv := PyData.depthAll_vals_le (ks.zip ds)
    rw [ek] at dk
    rw [ev] at dv
    have rd : Reads s.heap (.ref a) (.dict (ks.zip ds)) _ := .dict ho hx.1 hdt (by rw [ek]; exact rs) (by rw [ev]; exact rs')
    have mm : ReadAtMost s.heap (PyData.depthKv (ks.zip ds)) (bs ++ bs') := (m.mono dk).append (m'.mono dv)
    have out : a ∉ bs ++ bs' := not_mem_of_deeper rd (by simp only [PyData.depth]; omega) mm
    have hz' : (dictText (PyData.shownKv (ks.zip ds))).length ≤ sizeLine := by simpa only [PyData.shown] using hz
    obtain ⟨s1, s2⟩ := PyData.showableKv_split (ks.zip ds) (by simpa [PyData.showable] using hs)
    rw [ek] at s1
    rw [ev] at s2
    have k1 := k s1 fun t ht => by
      obtain ⟨p, hp, hl⟩ := PyData.shownKv_key_le (ks.zip ds) t (by rw [ek]; exact ht)
      exact Nat.le_trans hl (Nat.le_trans (dictText_mem_le hp) hz')
    have k2 := k' s2 fun t ht => by
      obtain ⟨p, hp, hl⟩ := PyData.shownKv_val_le (ks.zip ds) t (by rw [ev]; exact ht)
      exact Nat.le_trans hl (Nat.le_trans (dictText_mem_le hp) hz')
    simp only [PyData.depth] at dep
    simp only [PyData.shown, PyData.shownKv_eq, ek, ev] at endH
    rw [PyData.shownKv_eq, ek, ev] at hz'
    refine call_repr_slot (by omega) ⟨o, ho, hx.1⟩ F.slot_dict_repr ?_
    have hu1 : X.A.in1.units + (PyData.depthKv (ks.zip ds) + 1) < cLine := by
      show X.A.units + 1 + (PyData.depthKv (ks.zip ds) + 1) < cLine
      omega
    exact call_dict_reprK ho hx.1 hdt sys out (ReprEntriesK.of_two es.toList _ _ (k1.more_le (fun b z => List.mem_append_left _ z) dk) (k2.more_le (fun b z => List.mem_append_right _ z) dv))
      hg (fun b _ => Clear.nil b) hu1 (fun _ _ e => e) (fun h' u tk kp => ⟨_, _, rfl, endH h' u tk kp⟩) hz'
end
end Rt
/-! what the texts of all laws share: the source of numbers, the heap without it, data -/
namespace Rs
open PySem PySem.Spec L2 Rt
open PyProof.Rows hiding St
theorem n_cl : ¬ (("cells" : Str) = "left") := by decide +kernel
theorem n_cm : ¬ (("cells" : Str) = "mixed") := by decide +kernel
theorem n_ct : ¬ (("cells" : Str) = "turn") := by decide +kernel
theorem n_lm : ¬ (("left" : Str) = "mixed") := by decide +kernel
theorem n_lt : ¬ (("left" : Str) = "turn") := by decide +kernel
theorem n_mt : ¬ (("mixed" : Str) = "turn") := by decide +kernel
def srcK (c : Addr) (l m t : Int) : List (Key × V) := [(Sum.inr "cells", .ref c), (Sum.inr "left", .int l), (Sum.inr "mixed", .int m), (Sum.inr "turn", .int t)]
theorem ne_inr {a b : Str} (h : ¬ a = b) : ¬ ((Sum.inr a : Key) = Sum.inr b) := fun e => h (Sum.inr.inj e)
theorem val_cells (c : Addr) (l m t : Int) : valV (srcK c l m t) (Sum.inr "cells") = some (.ref c) := valV_pos rfl
theorem val_left (c : Addr) (l m t : Int) : valV (srcK c l m t) (Sum.inr "left") = some (.int l) := by
  unfold srcK
  rw [valV_neg (ne_inr n_cl), valV_pos rfl]
theorem val_mixed (c : Addr) (l m t : Int) : valV (srcK c l m t) (Sum.inr "mixed") = some (.int m) := by
  unfold srcK
  rw [valV_neg (ne_inr n_cm), valV_neg (ne_inr n_lm), valV_pos rfl]
theorem val_turn (c : Addr) (l m t : Int) : valV (srcK c l m t) (Sum.inr "turn") = some (.int t) := by
  unfold srcK
  rw [valV_neg (ne_inr n_ct), valV_neg (ne_inr n_lt), valV_neg (ne_inr n_mt), valV_pos rfl]
theorem put_left (c : Addr) (l m t z : Int) : putK (srcK c l m t) (Sum.inr "left") (.int z) = srcK c z m t := by
  have h1 := ne_inr n_cl
  have h2 := ne_inr (fun e => n_lm e.symm)
  have h3 := ne_inr (fun e => n_lt e.symm)
  unfold putK srcK
  simp [h1, h2, h3]
theorem put_mixed (c : Addr) (l m t z : Int) : putK (srcK c l m t) (Sum.inr "mixed") (.int z) = srcK c l z t := by
  have h1 := ne_inr n_cm
  have h2 := ne_inr n_lm
  have h3 := ne_inr (fun e => n_mt e.symm)
  unfold putK srcK
  simp [h1, h2, h3]
theorem put_turn (c : Addr) (l m t z : Int) : putK (srcK c l m t) (Sum.inr "turn") (.int z) = srcK c l m z := by
  have h1 := ne_inr n_ct
  have h2 := ne_inr n_lt
  have h3 := ne_inr n_mt
  unfold putK srcK
  simp [h1, h2, h3]
section
variable {H : Hp} {d c : Addr} {l m t : Int}
theorem get_cells (h : H d = some (.dK (srcK c l m t))) : DGet H d (.str "cells") (some (.ref c)) := by
  have z := DGet.k (k := (Sum.inr "cells" : Key)) h
  rw [val_cells] at z
  exact z
theorem get_left (h : H d = some (.dK (srcK c l m t))) : DGet H d (.str "left") (some (.int l)) := by
  have z := DGet.k (k := (Sum.inr "left" : Key)) h
  rw [val_left] at z
  exact z
theorem get_mixed (h : H d = some (.dK (srcK c l m t))) : DGet H d (.str "mixed") (some (.int m)) := by
  have z := DGet.k (k := (Sum.inr "mixed" : Key)) h
  rw [val_mixed] at z
  exact z
theorem get_turn (h : H d = some (.dK (srcK c l m t))) : DGet H d (.str "turn") (some (.int t)) := by
  have z := DGet.k (k := (Sum.inr "turn" : Key)) h
  rw [val_turn] at z
  exact z
theorem few4 : (srcK c l m t).length < sizeLine := by show 4 < sizeLine; decide
theorem st_left (h : H d = some (.dK (srcK c l m t))) (z : Int) : DPut H d (.str "left") (.int z) (upd H d (.dK (srcK c z m t))) := by
  have q := DPut.k (k := (Sum.inr "left" : Key)) (v := .int z) h few4
  rw [put_left] at q
  exact q
theorem st_mixed (h : H d = some (.dK (srcK c l m t))) (z : Int) : DPut H d (.str "mixed") (.int z) (upd H d (.dK (srcK c l z t))) := by
  have q := DPut.k (k := (Sum.inr "mixed" : Key)) (v := .int z) h few4
  rw [put_mixed] at q
  exact q
theorem st_turn (h : H d = some (.dK (srcK c l m t))) (z : Int) : DPut H d (.str "turn") (.int z) (upd H d (.dK (srcK c l m z))) := by
  have q := DPut.k (k := (Sum.inr "turn" : Key)) (v := .int z) h few4
  rw [put_turn] at q
  exact q
end
structure Src (H : Hp) (d c : Addr) : Prop where
  ex : ∃ (ks : List Int) (l m t : Int), H d = some (.dK (srcK c l m t)) ∧ H c = some (.lst (ks.map V.int))
def Keep (d c : Addr) (H H' : Hp) : Prop := ∀ b o, H b = some o → b ≠ d → b ≠ c → H' b = some o
theorem Keep.refl {d c : Addr} {H : Hp} : Keep d c H H := fun _ _ e _ _ => e
theorem Keep.trans {d c : Addr} {H H1 H2 : Hp} (a : Keep d c H H1) (b : Keep d c H1 H2) : Keep d c H H2 := fun x o e n1 n2 => b x o (a x o e n1 n2) n1 n2
theorem Keep.new {d c p : Addr} {o : HO} {H H1 : Hp} (a : Keep d c H H1) (n : H1 p = none) : Keep d c H (upd H1 p o) := fun x u e n1 n2 => by
  have z := a x u e n1 n2
  rw [upd_ne (ne_of_none z n)]
  exact z
theorem Keep.d {d c : Addr} {o : HO} {H H1 : Hp} (a : Keep d c H H1) : Keep d c H (upd H1 d o) := fun x u e n1 n2 => by
  rw [upd_ne n1]
  exact a x u e n1 n2
theorem Keep.c {d c : Addr} {o : HO} {H H1 : Hp} (a : Keep d c H H1) : Keep d c H (upd H1 c o) := fun x u e n1 n2 => by
  rw [upd_ne n2]
  exact a x u e n1 n2
theorem Src.new {d c p : Addr} {o : HO} {H : Hp} (S : Src H d c) (n : H p = none) : Src (upd H p o) d c := by
  obtain ⟨ks, l, m, t, h1, h2⟩ := S.ex
  exact ⟨ks, l, m, t, by rw [upd_ne (ne_of_none h1 n)]; exact h1, by rw [upd_ne (ne_of_none h2 n)]; exact h2⟩
theorem Src.nd {d c : Addr} {H : Hp} {b : Addr} {xs : List V} (S : Src H d c) (h : H b = some (.tup xs)) : b ≠ d ∧ b ≠ c := by
  obtain ⟨ks, l, m, t, h1, h2⟩ := S.ex
  exact ⟨ne_of h h1 (by intro z; cases z), ne_of h h2 (by intro z; cases z)⟩
theorem Keep.tup {d c : Addr} {H H1 : Hp} {b : Addr} {xs : List V} (a : Keep d c H H1) (S : Src H d c) (h : H b = some (.tup xs)) : H1 b = some (.tup xs) := a b _ h (S.nd h).1 (S.nd h).2
def spSource (K : PySem.W.Frag) : Sp := fun vs H Q _ => ∃ (a : Addr) (ns : List Int), vs = [.ref a] ∧ SqL K H a (ns.map V.int) ∧ ns.length ≤ 63 ∧
  ∀ (d c : Addr) (H' : Hp), H d = none → H c = none → Src H' d c → Same H H' → Q (.ref d) H'
def spPick : Sp := fun vs H Q _ => ∃ (d c : Addr) (n : Int), vs = [.ref d, .int n] ∧ Src H d c ∧ n < 1000000000 ∧
  ∀ (r : Int) (H' : Hp), 0 ≤ r → r < n ∨ r = 0 → Src H' d c → Keep d c H H' → Q (.int r) H'
def spOf : Sp := fun vs H Q _ => ∃ (d c p : Addr) (xs : List V), vs = [.ref d, .ref p] ∧ Src H d c ∧ H p = some (.lst xs) ∧ p ≠ c ∧ 0 < xs.length ∧ xs.length < 1000000000 ∧
  ∀ (i : Nat) (v : V) (H' : Hp), xs[i]? = some v → Src H' d c → Keep d c H H' → Q v H'
theorem merge_src (c : Addr) (l m t : Int) : mergeK [] (srcK c l m t) = srcK c l m t := by
  have h1 := ne_inr n_cl
  have h2 := ne_inr n_cm
  have h3 := ne_inr n_ct
  have h4 := ne_inr n_lm
  have h5 := ne_inr n_lt
  have h6 := ne_inr n_mt
  unfold mergeK srcK putK
  simp [h1, h2, h3, h4, h5, h6]
theorem int_at {ns : List Int} {i : Nat} {y : V} (h : (ns.map V.int)[i]? = some y) : ∃ z, ns[i]? = some z ∧ y = V.int z := by
  rw [List.getElem?_map] at h
  cases e : ns[i]? with
  | none => rw [e] at h; cases h
  | some z => rw [e] at h; exact ⟨z, rfl, (Option.some.inj h).symm⟩
theorem same_new {H : Hp} {p : Addr} {o : HO} (n : H p = none) : Same H (upd H p o) := fun b u e => by
  rw [upd_ne (ne_of_none e n)]
  exact e
theorem pick_at {α : Type} {xs : List α} {r : Int} (h0 : 0 ≤ r) (h1 : r < xs.length) : ∃ v, atI xs r = some v ∧ v ∈ xs := by
  obtain ⟨j, ej⟩ : ∃ j : Nat, r = (j : Int) := ⟨r.toNat, by omega⟩
  have hj : j < xs.length := by omega
  refine ⟨xs[j], ?_, List.getElem_mem hj⟩
  subst ej
  unfold atI ixN
  rw [if_pos h0, if_pos h1]
  show xs[((j : Int)).toNat]? = _
  rw [Int.toNat_natCast, List.getElem?_eq_getElem hj]
theorem Src.away {d c p : Addr} {H : Hp} (S : Src H d c) (n : H p = none) : p ≠ d ∧ p ≠ c := by
  obtain ⟨ks, l, m, u, h1, h2⟩ := S.ex
  exact ⟨(ne_of_none h1 n).symm, (ne_of_none h2 n).symm⟩
theorem Src.put {d c L : Addr} {o : HO} {H : Hp} (S : Src H d c) (a : L ≠ d ∧ L ≠ c) : Src (upd H L o) d c := by
  obtain ⟨ks, l, m, u, h1, h2⟩ := S.ex
  exact ⟨ks, l, m, u, by rw [upd_ne a.1.symm]; exact h1, by rw [upd_ne a.2.symm]; exact h2⟩
theorem Keep.put {d c L : Addr} {o : HO} {H H1 : Hp} (a : Keep d c H H1) (n : H L = none) : Keep d c H (upd H1 L o) := fun x u e n1 n2 => by
  rw [upd_ne (ne_of_none e n)]
  exact a x u e n1 n2
def Row {α : Type} (f : α → HO) (H : Hp) (as : List Addr) (ps : List α) : Prop := as.length = ps.length ∧ ∀ (i : Nat) (a : Addr) (p : α), as[i]? = some a → ps[i]? = some p → H a = some (f p)
theorem Row.same {α : Type} {f : α → HO} {H H' : Hp} {as : List Addr} {ps : List α} (r : Row f H as ps) (s : Same H H') : Row f H' as ps := ⟨r.1, fun i a p h1 h2 => s _ _ (r.2 i a p h1 h2)⟩
theorem atI_0 {α : Type} {a : α} {xs : List α} : atI (a :: xs) 0 = some a := by
  unfold atI ixN
  rw [if_pos (Int.le_refl 0), if_pos (by simp)]
  rfl
theorem get_k {H : Hp} {d : Addr} {kvs : List (Key × V)} {x : Str} (h : H d = some (.dK kvs)) : DGet H d (.str x) (valV kvs (Sum.inr x)) := DGet.k (k := Sum.inr x) h
theorem kitLT {K : PySem.W.Frag} {t : Value} (h : t = .type "list" ∨ t = .type "tuple") : PySem.W.kitAny K t [.type "list", .type "tuple"] = some true := by
  rcases h with rfl | rfl
  · exact kitAny_cons (b := true) (kit_ty (by decide +kernel)) (fun z => nomatch z) (fun _ => rfl)
  · exact kitAny_cons (b := false) (kit_ty (by decide +kernel)) (fun _ => kitAny_cons (b := true) (kit_ty (by decide +kernel)) (fun z => nomatch z) (fun _ => rfl)) (fun z => nomatch z)
def Sbut (a : Addr) (H H' : Hp) : Prop := ∀ b o, H b = some o → b ≠ a → H' b = some o
theorem Sbut.refl {a : Addr} {H : Hp} : Sbut a H H := fun _ _ e _ => e
theorem Sbut.trans {a : Addr} {H H1 H2 : Hp} (x : Sbut a H H1) (y : Sbut a H1 H2) : Sbut a H H2 := fun b o e n => y b o (x b o e n) n
theorem Sbut.of {a : Addr} {H H' : Hp} (s : Same H H') : Sbut a H H' := fun b o e _ => s b o e
theorem Sbut.put {a : Addr} {o : HO} {H : Hp} : Sbut a H (upd H a o) := fun b u e n => by
  rw [upd_ne n]
  exact e
theorem Row.but {α : Type} {f : α → HO} {a : Addr} {H H' : Hp} {as : List Addr} {ps : List α} (r : Row f H as ps) (s : Sbut a H H') (n : a ∉ as) : Row f H' as ps :=
  ⟨r.1, fun i b p h1 h2 => s _ _ (r.2 i b p h1 h2) fun e => n (e ▸ List.mem_of_getElem? h1)⟩
theorem row_not {α : Type} {f : α → HO} {a : Addr} {o : HO} {H : Hp} {as : List Addr} {ps : List α} (r : Row f H as ps) (h : H a = some o) (d : ∀ p, o ≠ f p) : a ∉ as := fun m => by
  obtain ⟨i, hi, e⟩ := List.getElem_of_mem m
  have hp : i < ps.length := by rw [← r.1]; exact hi
  have q := r.2 i a ps[i] (by rw [List.getElem?_eq_getElem hi, e]) (List.getElem?_eq_getElem hp)
  rw [h] at q
  exact d _ (Option.some.inj q)
def kindOf : HO → Option String
  | .lst _ => some "list"
  | .tup _ => some "tuple"
  | .dK _ => some "dict"
  | _ => none
def Od (H : Hp) : V → Prop
  | .ref t => ∃ o T, H t = some o ∧ kindOf o = some T
  | .ty _ => False
  | .byt _ => False
  | .flt _ => False
  | _ => True
def isI : V → Bool
  | .int _ => true
  | _ => false
theorem od_type {K : PySem.W.Frag} {H : Hp} {v : V} (h : Od H v) : ∃ T b1 b2, TyX K H v (.type T) ∧ kitB T "int" = some b1 ∧ kitB T "bool" = some b2 ∧ (b1 && !b2) = isI v := by
  cases v with
  | non => exact ⟨_, false, false, .base .non, by decide +kernel, by decide +kernel, rfl⟩
  | bl b => exact ⟨_, true, true, .base (.bl b), by decide +kernel, by decide +kernel, rfl⟩
  | int i => exact ⟨_, true, false, .base (.int i), by decide +kernel, by decide +kernel, rfl⟩
  | str x => exact ⟨_, false, false, .base (.str x), by decide +kernel, by decide +kernel, rfl⟩
  | byt b => exact h.elim
  | flt b => exact h.elim
  | ty n => exact h.elim
  | ref t =>
    obtain ⟨o, T, e, k⟩ := h
    cases o with
    | lst xs => exact ⟨_, false, false, .base (.lst e), by decide +kernel, by decide +kernel, rfl⟩
    | tup xs => exact ⟨_, false, false, .base (.tup e), by decide +kernel, by decide +kernel, rfl⟩
    | dK kvs => exact ⟨_, false, false, .base (.dK e), by decide +kernel, by decide +kernel, rfl⟩
    | _ => cases k
def onB (f s : Int) : V → Bool
  | .int i => decide ((i - f) % s = 0)
  | _ => false
theorem dec_V (i j : Int) : decide (V.int i = V.int j) = decide (i = j) := by
  by_cases h : i = j
  · subst h
    simp
  · rw [decide_eq_false h]
    exact decide_eq_false fun z => h (V.int.inj z)
def spIsInt : Sp := fun vs H Q _ => ∃ v, vs = [v] ∧ Od H v ∧ Q (.bl (isI v)) H
def spOn : Sp := fun vs H Q _ => ∃ (t : Addr) (f s : Int) (v : V), vs = [.ref t, v] ∧ H t = some (.tup [.int f, .int s]) ∧ 0 < s ∧ Od H v ∧ Q (.bl (onB f s v)) H
theorem Keep.od {d c : Addr} {H H1 : Hp} {v : V} (a : Keep d c H H1) (w : ∀ t, v = .ref t → t ≠ d ∧ t ≠ c) (h : Od H v) : Od H1 v := by
  cases v with
  | ref t =>
    obtain ⟨o, T, e, k⟩ := h
    obtain ⟨n1, n2⟩ := w t rfl
    exact ⟨o, T, a t o e n1 n2, k⟩
  | non => exact True.intro
  | bl b => exact True.intro
  | int i => exact True.intro
  | str x => exact True.intro
  | byt b => exact h.elim
  | flt b => exact h.elim
  | ty n => exact h.elim

theorem Od.same {H H' : Hp} {v : V} (s : Same H H') (h : Od H v) : Od H' v := by
  cases v with
  | ref t =>
    obtain ⟨o, T, e, k⟩ := h
    exact ⟨o, T, s _ _ e, k⟩
  | non => exact True.intro
  | bl b => exact True.intro
  | int i => exact True.intro
  | str x => exact True.intro
  | byt b => exact h.elim
  | flt b => exact h.elim
  | ty n => exact h.elim
def Row2 (H : Hp) (q : Addr) (xs : List V) : Prop := H q = some (.lst xs) ∨ H q = some (.tup xs)
theorem Row2.same {H H' : Hp} {q : Addr} {xs : List V} (s : Same H H') (h : Row2 H q xs) : Row2 H' q xs := h.imp (s _ _) (s _ _)
theorem Row2.type {K : PySem.W.Frag} {H : Hp} {q : Addr} {xs : List V} (h : Row2 H q xs) : ∃ T : String, TyX K H (.ref q) (.type T) ∧ PySem.W.kitAny K (.type T) [.type "list", .type "tuple"] = some true := by
  rcases h with h | h
  · exact ⟨_, .base (.lst h), kitLT (.inl rfl)⟩
  · exact ⟨_, .base (.tup h), kitLT (.inr rfl)⟩
theorem Row2.seq {K : PySem.W.Frag} {H : Hp} {q : Addr} {xs : List V} (h : Row2 H q xs) : SqL K H q xs ∨ SqT K H q xs := h.imp SqL.of SqT.of
theorem onB_int {f s : Int} {x : V} (h : onB f s x = true) : ∃ z, x = .int z := by
  cases x with
  | int z => exact ⟨z, rfl⟩
  | _ => exact absurd h (by simp [onB])
theorem rIx_of {K : PySem.W.Frag} {H : Hp} {q : Addr} {xs : List V} {i : Int} {x : V} {Q : VK} (h : Row2 H q xs) (e : atI xs i = some x) (k : Q x H) : rIx K (.ref q) (.int i) H Q := by
  rcases h with h | h
  · exact .inl ⟨q, xs, i, x, rfl, rfl, SqL.of h, e, k⟩
  · exact .inr (.inl ⟨q, xs, i, x, rfl, rfl, SqT.of h, e, k⟩)
theorem atN {xs : List V} {i : Nat} {x : V} (h : xs[i]? = some x) : atI xs (i : Int) = some x := at_of (j := i) rfl h
theorem kitLT0 {K : PySem.W.Frag} {T : String} (h1 : kitB T "list" = some false) (h2 : kitB T "tuple" = some false) : PySem.W.kitAny K (.type T) [.type "list", .type "tuple"] = some false :=
  kitAny_cons (b := false) (kit_ty h1) (fun _ => kitAny_cons (b := false) (kit_ty h2) (fun _ => kitAny_nil) (fun z => nomatch z)) (fun z => nomatch z)
section
variable {d c p : Addr} {H H' : Hp} {o : HO}
def mask (d c : Addr) (H : Hp) : Hp := fun b => if b = d ∨ b = c then none else H b
theorem mask_same : Same (mask d c H) H := fun b u e => by
  unfold mask at e
  split at e
  · cases e
  · exact e
theorem mask_keep (a : Keep d c H H') : Same (mask d c H) (mask d c H') := fun b u e => by
  unfold mask at e ⊢
  split at e
  · cases e
  · rename_i n
    rw [if_neg n]
    exact a b u e (fun z => n (.inl z)) (fun z => n (.inr z))
theorem mask_new (n : H p = none) : Same (mask d c H) (mask d c (upd H p o)) := mask_keep (Keep.refl.new n)
theorem mask_at (n : p ≠ d ∧ p ≠ c) (e : H p = some o) : mask d c H p = some o := by
  unfold mask
  rw [if_neg (fun z => z.elim n.1 n.2)]
  exact e
theorem Src.same (S : Src H d c) (s : Same H H') : Src H' d c := by
  obtain ⟨ks, l, m, u, h1, h2⟩ := S.ex
  exact ⟨ks, l, m, u, s _ _ h1, s _ _ h2⟩
end
def upv (f s x : Int) : Int := f + (x - f + s - 1) / s * s
theorem upv_on (f s x : Int) : (upv f s x - f) % s = 0 := by
  unfold upv
  rw [show f + (x - f + s - 1) / s * s - f = s * ((x - f + s - 1) / s) by rw [Int.mul_comm s]; omega, Int.mul_emod_right]
theorem upv_le {f s x : Int} (h : 0 < s) : x ≤ upv f s x := by
  unfold upv
  have h1 := Int.emod_def (x - f + s - 1) s
  have h2 := Int.emod_lt_of_pos (x - f + s - 1) h
  rw [Int.mul_comm] at h1
  omega
theorem upv_lt {f s x : Int} (h : 0 < s) : upv f s x < x + s := by
  unfold upv
  have h1 := Int.emod_def (x - f + s - 1) s
  have h2 := Int.emod_nonneg (x - f + s - 1) (Int.ne_of_gt h)
  rw [Int.mul_comm] at h1
  omega
def spLUp : Sp := fun vs H Q _ => ∃ (t : Addr) (f s x : Int), vs = [.ref t, .int x] ∧ H t = some (.tup [.int f, .int s]) ∧ 0 < s ∧ s < 1000 ∧ Q (.int (upv f s x)) H
theorem mask_but {d c D : Addr} {o : HO} {H : Hp} : Sbut D (mask d c H) (mask d c (upd H D o)) := fun b u e n => by
  unfold mask at e ⊢
  split at e
  · cases e
  · rename_i z
    rw [if_neg z, upd_ne n]
    exact e
theorem Row.snoc {α : Type} {f : α → HO} {H : Hp} {as : List Addr} {ps : List α} {a : Addr} {p : α} (r : Row f H as ps) (h : H a = some (f p)) : Row f H (as ++ [a]) (ps ++ [p]) := by
  refine ⟨by rw [List.length_append, List.length_append, r.1]; rfl, fun i b q h1 h2 => ?_⟩
  rcases Nat.lt_or_ge i as.length with lt | ge
  · rw [List.getElem?_append_left lt] at h1
    rw [List.getElem?_append_left (by rw [← r.1]; exact lt)] at h2
    exact r.2 i b q h1 h2
  · have e : i = as.length := by
      have := (List.getElem?_eq_some_iff.mp h1).1
      rw [List.length_append] at this
      simp at this
      omega
    rw [e, List.getElem?_append_right (Nat.le_refl _), Nat.sub_self] at h1
    rw [e, r.1, List.getElem?_append_right (Nat.le_refl _), Nat.sub_self] at h2
    cases h1
    cases h2
    exact h
theorem merge2 {a b : Str} {x y : V} (h : ¬ a = b) : mergeK [] [((Sum.inr a : Key), x), (Sum.inr b, y)] = [(Sum.inr a, x), (Sum.inr b, y)] := by
  have h1 := ne_inr h
  unfold mergeK putK
  simp [h1]
theorem eqvAll_ints : ∀ xs ys : List Int, PyData.eqvAll (xs.map PyData.int) (ys.map PyData.int) = decide (xs = ys)
  | [], [] => by simp [PyData.eqvAll]
  | [], _ :: _ => by simp [PyData.eqvAll]
  | _ :: _, [] => by simp [PyData.eqvAll]
  | x :: xs, y :: ys => by
    have h := eqvAll_ints xs ys
    have e : (x == y) = decide (x = y) := by
      rw [Bool.eq_iff_iff]
      simp
    simp [PyData.eqvAll, PyData.eqv, h, e]
theorem eqv_ints (xs ys : List Int) : PyData.eqv (.list (xs.map PyData.int)) (.list (ys.map PyData.int)) = decide (xs = ys) := by
  simp [PyData.eqv, eqvAll_ints]
theorem dpAll_ints {K : PySem.W.Frag} {H : Hp} : ∀ ks : List Int, DpAll K H (ks.map V.int) (ks.map PyData.int)
  | [] => .nil
  | k :: ks => .cons (.int k) (dpAll_ints ks)
theorem lay_ints : ∀ ks : List Int, PyData.canLayAll0 (ks.map PyData.int) = true
  | [] => by simp [PyData.canLayAll0]
  | k :: ks => by
    have h := lay_ints ks
    simp [PyData.canLayAll0, PyData.canLay0, h]
theorem depth_ints : ∀ ks : List Int, PyData.depthAll (ks.map PyData.int) = 0
  | [] => by simp [PyData.depthAll]
  | k :: ks => by
    have h := depth_ints ks
    simp [PyData.depthAll, PyData.depth, h]
theorem shaped_ints (ks : List Int) : SeqAt.shaped (.list (ks.map PyData.int)) = true := by
  unfold SeqAt.shaped
  simp [PyData.canLay0, lay_ints, PyData.depth, depth_ints]
theorem int_get {ys : List Int} {i : Nat} {z : Int} (h : (ys.map V.int)[i]? = some (V.int z)) : ys[i]? = some z := by
  obtain ⟨y, hy, e⟩ := int_at h
  cases e
  exact hy
theorem set_self {xs : List Int} {p : Nat} {z : Int} (h : xs[p]? = some z) : xs.set p z = xs := by
  refine List.ext_getElem? fun m => ?_
  by_cases e : p = m
  · subst e
    rw [List.getElem?_set_self (List.getElem?_eq_some_iff.mp h).1, h]
  · rw [List.getElem?_set_ne e]
theorem sqT_same {K : PySem.W.Frag} {H H' : Hp} {a : Addr} {xs : List V} (s : Same H H') (h : SqT K H a xs) : SqT K H' a xs := by
  rcases h with (h | ⟨o, h⟩) | h
  · exact .inl (.inl (s _ _ h))
  · exact .inl (.inr ⟨o, s _ _ h⟩)
  · exact .inr h
mutual
theorem Dx.same {K : PySem.W.Frag} {H H' : Hp} (s : Same H H') : ∀ (v : V) (d : PyData), Dx K H v d → Dx K H' v d
  | _, _, .non => .non
  | _, _, .bl b => .bl b
  | _, _, .int i => .int i
  | _, _, .str x => .str x
  | _, _, .lst h a => .lst (s.seq h) (DxAll.same s _ _ a)
  | _, _, .tup h a => .tup (sqT_same s h) (DxAll.same s _ _ a)
  | _, _, .dic h a => .dic (s _ _ h) (DxAll.same s _ _ a)
theorem DxAll.same {K : PySem.W.Frag} {H H' : Hp} (s : Same H H') : ∀ (vs : List V) (ds : List PyData), DxAll K H vs ds → DxAll K H' vs ds
  | _, _, .nil => .nil
  | _, _, .cons h t => .cons (Dx.same s _ _ h) (DxAll.same s _ _ t)
end
structure Nice (d : PyData) : Prop where
  sh : d.showable = true
  dp : d.depth ≤ 5
  ln : d.shown.length ≤ 10000
theorem Nice.one {d : PyData} (n : Nice d) : d.showable = true ∧ d.depth ≤ 60 ∧ d.shown.length ≤ sizeLine := ⟨n.sh, Nat.le_trans n.dp (by decide), Nat.le_trans n.ln (by decide)⟩
structure Sm (d : PyData) : Prop where
  sh : d.showable = true
  dp : d.depth ≤ 2
  ln : d.shown.length ≤ 450
theorem Sm.nice {d : PyData} (h : Sm d) : Nice d := ⟨h.sh, Nat.le_trans h.dp (by decide), Nat.le_trans h.ln (by decide)⟩
theorem sm_int {i : Int} (h : i.natAbs < 10 ^ 40) : Sm (.int i) := by
  refine ⟨?_, by simp [PyData.depth], ?_⟩
  · simp only [PyData.showable, decide_eq_true_eq]
    rcases Nat.eq_zero_or_pos i.natAbs with z | z
    · rw [z]
      decide
    · rw [Nat.log2_lt (Nat.ne_of_gt z)]
      exact Nat.lt_trans h (by decide +kernel)
  · simp only [PyData.shown]
    rw [ofString_len]
    exact Nat.le_trans (int_text_length_le10 (k := 40) (by decide) h) (by decide)
theorem sum_le {ds : List PyData} (h : ∀ d, d ∈ ds → Sm d) : ((PyData.shownAll ds).map (·.length)).sum ≤ 450 * ds.length ∧ (PyData.shownAll ds).length = ds.length ∧ PyData.showableAll ds = true ∧ PyData.depthAll ds ≤ 2 := by
  induction ds with
  | nil => exact ⟨by simp [PyData.shownAll], by simp [PyData.shownAll], by simp [PyData.showableAll], by simp [PyData.depthAll]⟩
  | cons d ds ih =>
    obtain ⟨i1, i2, i3, i4⟩ := ih fun x m => h x (List.mem_cons_of_mem _ m)
    have s := h d List.mem_cons_self
    have s1 := s.ln
    have s2 := s.dp
    refine ⟨?_, ?_, ?_, ?_⟩
    · simp only [PyData.shownAll, List.map_cons, List.sum_cons, List.length_cons]
      omega
    · simp only [PyData.shownAll, List.length_cons, i2]
    · simp only [PyData.showableAll, s.sh, i3, Bool.and_self]
    · simp only [PyData.depthAll]
      omega
theorem dxAll_ints {K : PySem.W.Frag} {H : Hp} : ∀ ks : List Int, DxAll K H (ks.map V.int) (ks.map PyData.int)
  | [] => .nil
  | k :: ks => .cons (.int k) (dxAll_ints ks)
mutual
theorem Dp.same {K : PySem.W.Frag} {H H' : Hp} (s : Same H H') : ∀ (v : V) (d : PyData), Dp K H v d → Dp K H' v d
  | _, _, .non => .non
  | _, _, .bl b => .bl b
  | _, _, .int i => .int i
  | _, _, .str x => .str x
  | _, _, .lst h a => .lst (s.seq h) (DpAll.same s _ _ a)
  | _, _, .tup h a => .tup (sqT_same s h) (DpAll.same s _ _ a)
theorem DpAll.same {K : PySem.W.Frag} {H H' : Hp} (s : Same H H') : ∀ (vs : List V) (ds : List PyData), DpAll K H vs ds → DpAll K H' vs ds
  | _, _, .nil => .nil
  | _, _, .cons h t => .cons (Dp.same s _ _ h) (DpAll.same s _ _ t)
end
theorem DpAll.snoc {K : PySem.W.Frag} {H : Hp} {v : V} {d : PyData} (h : Dp K H v d) : ∀ (vs : List V) (ds : List PyData), DpAll K H vs ds → DpAll K H (vs ++ [v]) (ds ++ [d])
  | _, _, .nil => .cons h .nil
  | _, _, .cons g t => .cons g (DpAll.snoc h _ _ t)
theorem Row.nil {α : Type} {f : α → HO} {H : Hp} : Row f H [] [] := ⟨rfl, fun i a p h => nomatch h⟩
theorem Row.cons {α : Type} {f : α → HO} {H : Hp} {a : Addr} {p : α} {as : List Addr} {ps : List α} (h : H a = some (f p)) (r : Row f H as ps) : Row f H (a :: as) (p :: ps) := by
  refine ⟨by rw [List.length_cons, List.length_cons, r.1], fun i b q e1 e2 => ?_⟩
  match i with
  | 0 => cases e1; cases e2; exact h
  | i + 1 => exact r.2 i b q e1 e2
def hide (p : Addr) (M : Hp) : Hp := fun b => if b = p then none else M b
theorem hide_same {p : Addr} {M : Hp} : Same (hide p M) M := fun b u e => by
  unfold hide at e
  split at e
  · cases e
  · exact e
theorem hide_up {p : Addr} {M M' : Hp} (s : Sbut p M M') : Same (hide p M) (hide p M') := fun b u e => by
  unfold hide at e ⊢
  split at e
  · cases e
  · rename_i n
    rw [if_neg n]
    exact s b u e n
theorem hide_in {p : Addr} {M M' : Hp} (n : M p = none) (s : Same M M') : Same M (hide p M') := fun b u e => by
  unfold hide
  rw [if_neg (ne_of_none e n)]
  exact s b u e
theorem Keep.free {d c p : Addr} {H H' : Hp} (a : Keep d c H H') (n : p ≠ d ∧ p ≠ c) (h : H' p = none) : H p = none := by
  cases e : H p with
  | none => rfl
  | some o =>
    rw [a p o e n.1 n.2] at h
    cases h
theorem hide_at {p b : Addr} {M : Hp} {o : HO} (n : b ≠ p) (e : M b = some o) : hide p M b = some o := by
  unfold hide
  rw [if_neg n]
  exact e
theorem flat_len {n : Nat} {v : V} : (List.replicate n [v]).flatten.length = n := by
  induction n with
  | zero => rfl
  | succ n ih => rw [List.replicate_succ, List.flatten_cons, List.length_append, ih]; show 1 + n = n + 1; omega
theorem sub_same {d c : Addr} {H H' : Hp} (s : Same H H') : Same (mask d c H) (mask d c H') := mask_keep fun b o e _ _ => s b o e
theorem Keep.of {d c : Addr} {H H' : Hp} (s : Same H H') : Keep d c H H' := fun b o e _ _ => s b o e
end Rs
/-! own rules: the greater and the less one of a pair of ints -/
namespace Rt
open PySem PySem.Spec L2
open PyProof.Rows hiding St
def rBest (K : PySem.W.Frag) (op : Int → Int → Int) : List V → Hp → VK → Prop := fun vs H Q => ∃ (b : Addr) (i j : Int), vs = [.ref b] ∧ SqT K H b [.int i, .int j] ∧ Q (.int (op i j)) H
theorem alike2 (i j : Int) : PySem.W.AlikeAll [.int i, .int j] := by
  refine ⟨fun x hx y hy => ?_, fun x hx => ?_⟩
  · rcases List.mem_cons.mp hx with rfl | hx <;> rcases List.mem_cons.mp hy with rfl | hy
    all_goals first
      | rfl
      | (cases List.mem_singleton.mp hx; first | rfl | (cases List.mem_singleton.mp hy; rfl))
      | (cases List.mem_singleton.mp hy; rfl)
  · rcases List.mem_cons.mp hx with rfl | hx
    · exact fun z => nomatch z
    · cases List.mem_singleton.mp hx
      exact fun z => nomatch z
theorem call_maxP {X : Cx} (hc : X.calm = true) (hu : X.A.units + 64 < cLine) : CallR X (.builtin "max") (rBest X.K fun i j => if j > i then j else i) := by
  intro pins s σ H vs us Q I rv want
  obtain ⟨b, i, j, rfl, hb, q⟩ := want
  obtain ⟨its, r, htp, _⟩ := I.tuple hb
  rw [Vals.ref1 rv]
  cases r with
  | cons r1 r =>
    cases r with
    | cons r2 r =>
      cases r
      obtain ⟨t1, rfl⟩ := r1
      obtain ⟨t2, rfl⟩ := r2
      refine PySem.W.max_tuple_data (I.ok.hd hc) htp (.cons (.int i t1) (.cons (.int j t2) .nil)) (alike2 i j) (by simp only [PyData.depthAll, PyData.depth]; omega) fun k v h' tk bs _ rd keep => ?_
      have e : PySem.W.maxD (.int i) [.int j] = .int (if j > i then j else i) := by
        refine (PySem.W.maxD_ints i [j]).trans (congrArg PyData.int ?_)
        show max i j = _
        split <;> omega
      rw [e] at rd
      cases rd with
      | int _ t => exact ⟨.int _, H, I.kept (t' := tk) keep, ⟨_, rfl⟩, q⟩
theorem call_minP {X : Cx} (hc : X.calm = true) (hu : X.A.units + 64 < cLine) : CallR X (.builtin "min") (rBest X.K fun i j => if j < i then j else i) := by
  intro pins s σ H vs us Q I rv want
  obtain ⟨b, i, j, rfl, hb, q⟩ := want
  obtain ⟨its, r, htp, _⟩ := I.tuple hb
  rw [Vals.ref1 rv]
  cases r with
  | cons r1 r =>
    cases r with
    | cons r2 r =>
      cases r
      obtain ⟨t1, rfl⟩ := r1
      obtain ⟨t2, rfl⟩ := r2
      refine PySem.W.min_tuple_data (I.ok.hd hc) htp (.cons (.int i t1) (.cons (.int j t2) .nil)) (alike2 i j) (by simp only [PyData.depthAll, PyData.depth]; omega) fun k v h' tk bs _ rd keep => ?_
      have e : PySem.W.minD (.int i) [.int j] = .int (if j < i then j else i) := by
        refine (PySem.W.minD_ints i [j]).trans (congrArg PyData.int ?_)
        show min i j = _
        split <;> omega
      rw [e] at rd
      cases rd with
      | int _ t => exact ⟨.int _, H, I.kept (t' := tk) keep, ⟨_, rfl⟩, q⟩
end Rt
/-! own rules: zip of two tuples whose pairs are kept under one name -/
namespace Rt
open PySem PySem.Spec L2 RZ
open PyProof.Rows hiding St
/-- a zip, whatever its first two fields tell of the pair that it handed out -/
abbrev ZAt (h : Heap) (z TI TO : Addr) (r : Value) (g : Bool) : Prop := h.get? z = some { cls := .type "zip", dict := none, data := .fields #[r, .bool g, .bool false, .ref TI, .ref TO], slots := #[] }
def Out (r : Value) : Prop := r = .none ∨ ∃ T : Nat, r = rawInt T
section
variable {prog : Program} {w : World} {A : Around} {E : Value → Shared → Prop} {s : Shared} {z TI TO i1 i2 l1 l2 : Addr} {r : Value} {g : Bool}
theorem free_or {Q : Bool → Shared → Prop} (hz : ZAt s.heap z TI TO r g) (hr : Out r) (yes : Q true s) (no : ∀ h', ZAt h' z TI TO r true → Heap.SameBut z s.heap h' → Q false { s with heap := h' }) :
    wpAny (model prog w) A (Builtin.SmallTypes.ownedTupleIsFree (.ref z)) Q E s := by
  rcases hr with rfl | ⟨T, rfl⟩
  · unfold Builtin.SmallTypes.ownedTupleIsFree
    exact wpAny_bind (wpAny_field hz rfl (x := .none) rfl (wpAny_pure yes))
  · cases hT : s.heap.get? T with
    | some o => exact wpAny_tupleHeld_zip hz hT fun h' a b => no h' a b
    | none =>
      unfold Builtin.SmallTypes.ownedTupleIsFree
      refine wpAny_bind (wpAny_field hz rfl (x := rawInt T) rfl ?_)
      show wpAny _ _ (loadIfAlive ((T : Int).toNat) >>= _) _ _ _
      rw [Int.toNat_natCast]
      refine wpAny_bind ?_
      have dead : ∀ {R : Option Obj → Shared → Prop}, R none s → wpAny (model prog w) A (loadIfAlive T) R E s := fun {R} q => by
        have q' : R (s.heap.get? T) s := by rw [hT]; exact q
        exact fun _ _ _ => q'
      refine dead ?_
      simp only [Option.isNone_none, if_true]
      exact wpAny_pure yes
/-- what stands behind an item -/
def After (D : Heap) (z TI TO i1 i2 l1 l2 : Addr) (k : Nat) (x y : Value) (h' : Heap) : Prop :=
  (∃ r g, ZAt h' z TI TO r g ∧ Out r) ∧ (∃ a b, IsPair h' TO a b) ∧ h'.IsTupleIter i1 l1 (k + 1) ∧ h'.IsTupleIter i2 l2 (k + 1) ∧ IsPair h' D.objs.size x y ∧ h'.objs.size = D.objs.size + 1 ∧
    ∀ c o, c ≠ z → c ≠ TO → c ≠ i1 → c ≠ i2 → D.get? c = some o → h'.get? c = some o
theorem zn_item {k : Nat} {xs ys : Array Value} {x y a b : Value} {Q : Value → Shared → Prop} (D : ZipApart z TI TO i1 i2 l1 l2) (hz : ZAt s.heap z TI TO r g) (hr : Out r) (pI : IsPair s.heap TI (.ref i1) (.ref i2)) (pO : IsPair s.heap TO a b)
    (u1 : s.heap.IsTupleIter i1 l1 k) (u2 : s.heap.IsTupleIter i2 l2 k) (t1 : s.heap.IsTuple l1 xs) (t2 : s.heap.IsTuple l2 ys) (ex : xs[k]? = some x) (ey : ys[k]? = some y)
    (now : ∀ h', After s.heap z TI TO i1 i2 l1 l2 k x y h' → Q (.ref s.heap.objs.size) { s with heap := h' }) : wpAny (model prog w) A (Builtin.«zip.__next__» ⟨[.ref z], []⟩) (fun fin s' => ∃ v, fin = .done (.ret v) ∧ Q v s') E s := by
  show wpAny _ _ (field (.ref z) 2 >>= _) _ _ _
  refine wpAny_bind (wpAny_field hz rfl (x := .bool false) rfl ?_); show wpAny _ _ (field (.ref z) 3 >>= _) _ _ _
  refine wpAny_bind (wpAny_field hz rfl (x := .ref TI) rfl (wpAny_bind (wpAny_seqItems pI rfl ?_)))
  show wpAny _ _ (Builtin.SmallTypes.ownedTupleIsFree (.ref z) >>= _) _ _ _
  refine wpAny_bind (free_or hz hr ?_ fun ha za sa => ?_)
  · -- the pair is free: it is laid anew out of the kept one
    simp only [if_true]
    refine wpAny_bind (wpAny_rule (wpAny_bind (wpAny_field hz rfl (x := .ref TO) rfl ?_)))
    refine wpAny_bind (wpAny_setField_rec hz (by simp) fun ha za sa => wpAny_bind ?_)
    replace za : ZAt ha z TI TO .ellipsis g := za
    simp only [List.zipIdx_cons, List.zipIdx_nil, List.forIn_cons, List.forIn_nil]
    refine wpAny_bind ?_; refine wpAny_bind (wpAny_onRaise ?_)
    show wpAny _ _ (Builtin.SmallTypes.nextOf (.ref i1) >>= _) _ _ _
    refine wpAny_bind (nextOf_tuple_item (u1.extBut sa.extBut D.i1z) (t1.extBut sa.extBut D.l1z) ex fun hb ub sb => wpAny_pure ?_)
    have pb : IsPair hb TO a b := sb.extBut _ _ D.TOi1 (sa.extBut _ _ D.TOz pO)
    refine wpAny_bind (wpAny_seqItems pb rfl (wpAny_bind (wpAny_updateSeq_pair pb fun hc pc sc => wpAny_bind (wpAny_letGo (wpAny_pure ?_)))))
    replace pc : IsPair hc TO x b := pc
    refine wpAny_bind ?_; refine wpAny_bind (wpAny_onRaise ?_)
    show wpAny _ _ (Builtin.SmallTypes.nextOf (.ref i2) >>= _) _ _ _
    have uc2 := ((u2.extBut sa.extBut D.i2z).extBut sb.extBut D.i12.symm).extBut sc.extBut D.TOi2.symm
    have tc2 := ((t2.extBut sa.extBut D.l2z).extBut sb.extBut D.l2i1).extBut sc.extBut D.l2TO
    refine wpAny_bind (nextOf_tuple_item uc2 tc2 ey fun hd ud sd => wpAny_pure ?_)
    have pd : IsPair hd TO x b := sd.extBut _ _ D.TOi2 pc
    refine wpAny_bind (wpAny_seqItems pd rfl (wpAny_bind (wpAny_updateSeq_pair pd fun he pe se => wpAny_bind (wpAny_letGo (wpAny_pure (wpAny_pure ?_))))))
    replace pe : IsPair he TO x y := pe
    refine wpAny_bind (wpAny_seqItems pe rfl (wpAny_bind (wpAny_newTuple ?_)))
    have size : he.objs.size = s.heap.objs.size := by rw [se.1, sd.1, sc.1, sb.1, sa.1]
    have ze : ZAt he z TI TO .ellipsis g := se.extBut _ _ D.TOz.symm (sd.extBut _ _ D.i2z.symm (sc.extBut _ _ D.TOz.symm (sb.extBut _ _ D.i1z.symm za)))
    have stay : ∀ c o, c ≠ z → c ≠ TO → c ≠ i1 → c ≠ i2 → s.heap.get? c = some o → he.get? c = some o := fun c o n1 n2 n3 n4 e => se.extBut _ _ n2 (sd.extBut _ _ n4 (sc.extBut _ _ n2 (sb.extBut _ _ n3 (sa.extBut _ _ n1 e))))
    have ue1 : he.IsTupleIter i1 l1 (k + 1) := ((ub.extBut sc.extBut D.TOi1.symm).extBut sd.extBut D.i12).extBut se.extBut D.TOi1.symm
    have ue2 : he.IsTupleIter i2 l2 (k + 1) := ud.extBut se.extBut D.TOi2.symm
    have zlt : z < he.objs.size := Heap.lt_size ze
    show wpAny _ _ (Builtin.SmallTypes.ownedTupleHandOut (.ref z) (.ref he.objs.size) >>= _) _ _ _
    refine wpAny_bind ?_
    unfold Builtin.SmallTypes.ownedTupleHandOut
    have zf : ZAt (he.push { cls := .type "tuple", data := .seq #[x, y] }) z TI TO .ellipsis g := Heap.get?_push_of_some _ ze
    refine wpAny_bind (wpAny_setField_rec zf (by simp) fun hf zg sf => ?_)
    replace zg : ZAt hf z TI TO (rawInt he.objs.size) g := zg
    refine wpAny_setField_rec zg (by simp) fun hg zh sg => wpAny_pure ⟨_, rfl, ?_⟩
    replace zh : ZAt hg z TI TO (rawInt he.objs.size) false := zh
    have up : ∀ c o, c ≠ z → he.get? c = some o → hg.get? c = some o := fun c o n e => sg.extBut _ _ n (sf.extBut _ _ n (Heap.get?_push_of_some _ e))
    have pn : IsPair hg he.objs.size x y := sg.extBut _ _ (Nat.ne_of_gt zlt) (sf.extBut _ _ (Nat.ne_of_gt zlt) (Heap.get?_push_size _ rfl))
    have sz : hg.objs.size = he.objs.size + 1 := by rw [sg.1, sf.1, Heap.size_push]
    show Q (.ref he.objs.size) _
    rw [size] at pn sz ⊢
    exact now hg ⟨⟨_, _, zh, .inr ⟨_, rfl⟩⟩, ⟨_, _, up _ _ D.TOz pe⟩, ue1.at fun o e => up _ o D.i1z e, ue2.at fun o e => up _ o D.i2z e, pn, sz, fun c o n1 n2 n3 n4 e => up c o n1 (stay c o n1 n2 n3 n4 e)⟩
  · -- the pair is still out: a new one
    simp only [Bool.false_eq_true, if_false]
    refine wpAny_bind ?_
    rw [← Array.forIn_toList]
    simp only [List.forIn_cons, List.forIn_nil]
    refine wpAny_bind ?_; refine wpAny_bind (wpAny_holding ?_)
    show wpAny _ _ (Builtin.SmallTypes.nextOf (.ref i1) >>= _) _ _ _
    refine wpAny_bind (nextOf_tuple_item (s := { s with heap := ha }) (u1.extBut sa.extBut D.i1z) (t1.extBut sa.extBut D.l1z) ex fun hb ub sb => wpAny_pure (wpAny_pure ?_))
    refine wpAny_bind ?_; refine wpAny_bind (wpAny_holding ?_)
    show wpAny _ _ (Builtin.SmallTypes.nextOf (.ref i2) >>= _) _ _ _
    have ub2 := (u2.extBut sa.extBut D.i2z).extBut sb.extBut D.i12.symm
    have tb2 := (t2.extBut sa.extBut D.l2z).extBut sb.extBut D.l2i1
    refine wpAny_bind (nextOf_tuple_item (s := { s with heap := hb }) ub2 tb2 ey fun hc uc sc => wpAny_pure (wpAny_pure (wpAny_pure ?_)))
    show wpAny _ _ (newTuple [x, y] >>= _) _ _ _
    refine wpAny_bind (wpAny_newTuple (wpAny_pure ⟨_, rfl, ?_⟩))
    have size : hc.objs.size = s.heap.objs.size := by rw [sc.1, sb.1, sa.1]
    have zc : ZAt hc z TI TO r true := sc.extBut _ _ D.i2z.symm (sb.extBut _ _ D.i1z.symm za)
    have stay : ∀ c o, c ≠ z → c ≠ i1 → c ≠ i2 → s.heap.get? c = some o → hc.get? c = some o := fun c o n1 n2 n3 e => sc.extBut _ _ n3 (sb.extBut _ _ n2 (sa.extBut _ _ n1 e))
    have uc1 : hc.IsTupleIter i1 l1 (k + 1) := ub.extBut sc.extBut D.i12
    have pn : IsPair (hc.push { cls := .type "tuple", data := .seq #[x, y] }) hc.objs.size x y := Heap.get?_push_size _ rfl
    have sz : (hc.push { cls := .type "tuple", data := .seq #[x, y] }).objs.size = hc.objs.size + 1 := Heap.size_push ..
    show Q (.ref hc.objs.size) _
    rw [size] at pn sz ⊢
    exact now _ ⟨⟨_, _, Heap.get?_push_of_some _ zc, hr⟩, ⟨_, _, Heap.get?_push_of_some _ (stay _ _ D.TOz D.TOi1 D.TOi2 pO)⟩, uc1.at fun o e => Heap.get?_push_of_some _ e, uc.at fun o e => Heap.get?_push_of_some _ e, pn, sz,
      fun c o n1 _ n3 n4 e => Heap.get?_push_of_some _ (stay c o n1 n3 n4 e)⟩
end
end Rt
/-! own rules: zip of two tuples as what a loop or a comprehension with one name goes over -/
namespace Rt
open PySem PySem.Spec L2 RZ
open PyProof.Rows hiding St
section
variable {prog : Program} {w : World} {A : Around} {E : Value → Shared → Prop} {s : Shared} {z TI TO i1 i2 l1 l2 : Addr} {r : Value} {g : Bool}
theorem zn_end {k : Nat} {xs ys : Array Value} {a b : Value} {Q : Fin → Shared → Prop} (hh : A.handled = none) (D : ZipApart z TI TO i1 i2 l1 l2) (hz : ZAt s.heap z TI TO r g) (hr : Out r) (pI : IsPair s.heap TI (.ref i1) (.ref i2))
    (u1 : s.heap.IsTupleIter i1 l1 k) (t1 : s.heap.IsTuple l1 xs) (ex : xs[k]? = none)
    (out : ∀ h' e, (∀ c o, c ≠ z → c ≠ TO → c ≠ i1 → c ≠ i2 → s.heap.get? c = some o → h'.get? c = some o) → (∃ o, h'.get? e = some o ∧ o.cls = .type "StopIteration") → E (.ref e) { s with heap := h' }) : wpAny (model prog w) A (Builtin.«zip.__next__» ⟨[.ref z], []⟩) Q E s := by
  show wpAny _ _ (field (.ref z) 2 >>= _) _ _ _
  refine wpAny_bind (wpAny_field hz rfl (x := .bool false) rfl ?_); show wpAny _ _ (field (.ref z) 3 >>= _) _ _ _
  refine wpAny_bind (wpAny_field hz rfl (x := .ref TI) rfl (wpAny_bind (wpAny_seqItems pI rfl ?_)))
  show wpAny _ _ (Builtin.SmallTypes.ownedTupleIsFree (.ref z) >>= _) _ _ _
  refine wpAny_bind (free_or hz hr ?_ fun ha za sa => ?_)
  · simp only [if_true]
    refine wpAny_bind (wpAny_rule (wpAny_bind (wpAny_field hz rfl (x := .ref TO) rfl ?_)))
    refine wpAny_bind (wpAny_setField_rec hz (by simp) fun ha za sa => wpAny_bind ?_)
    replace za : ZAt ha z TI TO .ellipsis g := za
    simp only [List.zipIdx_cons, List.zipIdx_nil, List.forIn_cons, List.forIn_nil]
    refine wpAny_bind ?_; refine wpAny_bind (wpAny_onRaise ?_)
    show wpAny _ _ (Builtin.SmallTypes.nextOf (.ref i1) >>= _) _ _ _
    refine wpAny_bind (nextOf_tuple_end hh (u1.extBut sa.extBut D.i1z) (t1.extBut sa.extBut D.l1z) ex fun hb e sb he => ?_)
    obtain ⟨oe, e1, e2⟩ := he
    have zb : ZAt hb z TI TO .ellipsis g := sb _ _ D.i1z.symm za
    have ne : e ≠ z := fun same => by subst same; rw [zb] at e1; cases e1; simp at e2
    refine wpAny_setField_rec zb (by simp) fun hc _ sc => out hc e (fun c o n1 _ n3 _ q => ?_) ⟨oe, sc.extBut _ _ ne e1, e2⟩
    exact sc.extBut _ _ n1 (sb _ _ n3 (sa.extBut _ _ n1 q))
  · simp only [Bool.false_eq_true, if_false]
    refine wpAny_bind ?_
    rw [← Array.forIn_toList]
    simp only [List.forIn_cons, List.forIn_nil]
    refine wpAny_bind ?_; refine wpAny_bind (wpAny_holding ?_)
    show wpAny _ _ (Builtin.SmallTypes.nextOf (.ref i1) >>= _) _ _ _
    refine wpAny_bind (nextOf_tuple_end (s := { s with heap := ha }) hh (u1.extBut sa.extBut D.i1z) (t1.extBut sa.extBut D.l1z) ex fun hb e sb he => out hb e (fun c o n1 _ n3 _ q => ?_) he)
    exact sb _ _ n3 (sa.extBut _ _ n1 q)
theorem next_zn {k : Nat} {xs ys : Array Value} {x y a b : Value} {Q : Option Value → Shared → Prop} (D : ZipApart z TI TO i1 i2 l1 l2) (hz : ZAt s.heap z TI TO r g) (hr : Out r) (pI : IsPair s.heap TI (.ref i1) (.ref i2)) (pO : IsPair s.heap TO a b)
    (u1 : s.heap.IsTupleIter i1 l1 k) (u2 : s.heap.IsTupleIter i2 l2 k) (t1 : s.heap.IsTuple l1 xs) (t2 : s.heap.IsTuple l2 ys) (ex : xs[k]? = some x) (ey : ys[k]? = some y)
    (now : ∀ h', After s.heap z TI TO i1 i2 l1 l2 k x y h' → Q (some (.ref s.heap.objs.size)) { s with heap := h' }) : wpAny (model prog w) A (pyNext (.ref z)) Q E s := by
  have isZ : s.TypeIs (.ref z) "zip" := ⟨_, hz, rfl⟩
  unfold pyNext
  refine wpAny_bind (wpAny_attempt (wpAny_callSpecial?_slot (name := Str.ofString "__next__") isZ F.slot_zip_next (wpAny_call_entry F.slot_zip_next isZ F.entry_zip_next ?_ (F.args_zip_next_1 _))))
  exact zn_item D hz hr pI pO u1 u2 t1 t2 ex ey fun h' q => wpAny_pure (now h' q)
theorem stop_zn {k : Nat} {xs : Array Value} {Q : Option Value → Shared → Prop} (hh : A.handled = none) (D : ZipApart z TI TO i1 i2 l1 l2) (hz : ZAt s.heap z TI TO r g) (hr : Out r) (pI : IsPair s.heap TI (.ref i1) (.ref i2)) (u1 : s.heap.IsTupleIter i1 l1 k) (t1 : s.heap.IsTuple l1 xs) (ex : xs[k]? = none)
    (now : ∀ h', (∀ c o, c ≠ z → c ≠ TO → c ≠ i1 → c ≠ i2 → s.heap.get? c = some o → h'.get? c = some o) → Q none { s with heap := h' }) : wpAny (model prog w) A (pyNext (.ref z)) Q E s := by
  have isZ : s.TypeIs (.ref z) "zip" := ⟨_, hz, rfl⟩
  unfold pyNext
  refine wpAny_bind (wpAny_attempt (wpAny_callSpecial?_slot (name := Str.ofString "__next__") isZ F.slot_zip_next (wpAny_call_entry F.slot_zip_next isZ F.entry_zip_next ?_ (F.args_zip_next_1 _))))
  refine zn_end (xs := xs) (ys := xs) (a := .none) (b := .none) hh D hz hr pI u1 t1 ex fun h' e stay he => ?_
  obtain ⟨o, e1, e2⟩ := he
  refine wpAny_bind (wpAny_isInstance (T := "StopIteration") (b := true) ⟨o, e1, e2⟩ isSubtype_stop (wpAny_pure (now _ stay)))
theorem iter_zn {Q : Value → Shared → Prop} (hz : ZAt s.heap z TI TO r g) (now : Q (.ref z) s) : wpAny (model prog w) A (pyIter (.ref z)) Q E s := by
  have isZ : s.TypeIs (.ref z) "zip" := ⟨_, hz, rfl⟩
  refine wpAny_pyIter_slot isZ F.slot_zip_iter (wpAny_call_entry F.slot_zip_iter isZ F.entry_zip_iter ?_ (F.args_zip_iter_1 _))
  show wpAny _ _ (ret (.ref z)) _ _ s
  exact wpAny_pure ⟨_, rfl, "zip", _, isZ, F.slot_zip_next.lookup, now⟩
end
/-- two tuples of one length, their items in new pairs -/
def Itn (K : PySem.W.Frag) (a b : Addr) : It where
  go i H := ∃ (xs ys : List V) (x y : V), SqT K H a xs ∧ SqT K H b ys ∧ xs[i]? = some x ∧ ys[i]? = some y
  yld i H v H' := ∃ (T : Addr) (x y : V), v = .ref T ∧ H T = none ∧ H' = upd H T (.tup [x, y]) ∧ (∀ xs, SqT K H a xs → xs[i]? = some x) ∧ ∀ ys, SqT K H b ys → ys[i]? = some y
  stop i H := ∃ xs : List V, SqT K H a xs ∧ xs.length ≤ i
def Zn (z TI TO i1 i2 a b : Addr) (i : Nat) (h : Heap) : Prop := (∃ r g, ZAt h z TI TO r g ∧ Out r) ∧ IsPair h TI (.ref i1) (.ref i2) ∧ (∃ x y, IsPair h TO x y) ∧ h.IsTupleIter i1 a i ∧ h.IsTupleIter i2 b i
theorem five {z TI TO i1 i2 c : Addr} (h : c ∈ [z, TI, TO, i1, i2]) : c = z ∨ c = TI ∨ c = TO ∨ c = i1 ∨ c = i2 := by simpa using h
theorem turn_zn {P : Program} {w : World} {K : PySem.W.Frag} {nm : Str} {px : Pos} {a b z TI TO i1 i2 : Addr} (D : ZipApart z TI TO i1 i2 a b) : Turn P w K (.Name nm px) (Itn K a b) [z, TI, TO, i1, i2] z (Zn z TI TO i1 i2 a b) := by
  refine ⟨by simp, ?_, ?_, ?_, ?_, ?_⟩
  · rintro i h ⟨⟨r, g, hz, _⟩, hI, ⟨x, y, hO⟩, ⟨o1, e1, _, d1⟩, ⟨o2, e2, _, d2⟩⟩ c hc
    rcases five hc with rfl | rfl | rfl | rfl | rfl
    · exact ⟨_, hz, fun v q => nomatch q⟩
    · exact ⟨_, hI, fun v q => nomatch q⟩
    · exact ⟨_, hO, fun v q => nomatch q⟩
    · exact ⟨o1, e1, fun v q => by rw [d1] at q; cases q⟩
    · exact ⟨o2, e2, fun v q => by rw [d2] at q; cases q⟩
  · rintro i h h' ⟨⟨r, g, hz, hr⟩, hI, ⟨x, y, hO⟩, u1, u2⟩ k
    exact ⟨⟨r, g, k z (by simp) _ hz, hr⟩, k TI (by simp) _ hI, ⟨x, y, k TO (by simp) _ hO⟩, u1.at fun o q => k i1 (by simp) o q, u2.at fun o q => k i2 (by simp) o q⟩
  · intro X hP hw hK hc i pins s σ H E I free st hg
    subst hP hw hK
    obtain ⟨⟨r, g, hz, hr⟩, hI, ⟨x0, y0, hO⟩, u1, u2⟩ := st
    obtain ⟨xs, ys, x, y, qx, qy, hx, hy⟩ := hg
    obtain ⟨its, rv, p, _⟩ := I.tuple qx
    obtain ⟨its2, rv2, p2, _⟩ := I.tuple qy
    obtain ⟨v1, hv1, r1⟩ := rv.get hx
    obtain ⟨v2, hv2, r2⟩ := rv2.get hy
    refine next_zn D hz hr hI hO u1 u2 p p2 (x := v1) (y := v2) (by simpa using hv1) (by simpa using hv2) fun h' ⟨zz, oo, n1, n2, pn, sz, stay⟩ => ?_
    refine ⟨_, rfl, wpAny_pure ?_⟩
    have new : ObjOk X.prog X.w (upd H s.heap.objs.size (.tup [x, y])) h' s.heap.objs.size (.tup [x, y]) := ⟨by show 2 ≤ sizeLine; decide, [v1, v2], .cons r1 (.cons r2 .nil), ⟨_, pn, rfl, _, rfl⟩⟩
    have I1 : Inv X pins σ (upd H s.heap.objs.size (.tup [x, y])) { s with heap := h' } :=
      I.turnedNew (t' := s.toks) (ch := [z, TI, TO, i1, i2]) (fun c o out q => stay c o (fun e => out (by simp [e])) (fun e => out (by simp [e])) (fun e => out (by simp [e])) (fun e => out (by simp [e])) q) free (Nat.le_refl _) new
    have hI' : IsPair h' TI (.ref i1) (.ref i2) := stay _ _ D.TIz D.TITO D.TIi1 D.TIi2 hI
    refine ⟨.ref s.heap.objs.size, _, I1, rfl, ⟨_, x, y, rfl, I.hok.fresh (Nat.le_refl _), rfl, fun l hl => by rw [I.tuple_inj hl qx]; exact hx, fun l hl => by rw [I.tuple_inj hl qy]; exact hy⟩, ⟨zz, hI', oo, n1, n2⟩, fun c hcm => ?_⟩
    have lt : c < s.heap.objs.size := by
      rcases five hcm with rfl | rfl | rfl | rfl | rfl
      · exact Heap.lt_size hz
      · exact Heap.lt_size hI
      · exact Heap.lt_size hO
      · obtain ⟨_, e, _⟩ := u1
        exact Heap.lt_size e
      · obtain ⟨_, e, _⟩ := u2
        exact Heap.lt_size e
    rw [upd_ne (Nat.ne_of_lt lt)]
    exact (free c hcm).1
  · intro X hP hw hK hc i pins s σ H E I free st hg
    subst hP hw hK
    obtain ⟨⟨r, g, hz, hr⟩, hI, ⟨x0, y0, hO⟩, u1, u2⟩ := st
    obtain ⟨xs, qx, le⟩ := hg
    obtain ⟨its, rv, p, _⟩ := I.tuple qx
    have same := rv.length
    refine stop_zn (I.ok.hd hc) D hz hr hI u1 p (by simp; omega) fun h' stay => ⟨rfl, I.turnedL (t' := s.toks) (ch := [z, TI, TO, i1, i2]) (fun c o out q => ?_) free⟩
    exact stay c o (fun e => out (by simp [e])) (fun e => out (by simp [e])) (fun e => out (by simp [e])) (fun e => out (by simp [e])) q
  · rintro A i s Q E ⟨⟨r, g, hz, _⟩, _⟩ h
    exact iter_zn hz h
def iZipN (K : PySem.W.Frag) (ta : TA) : TI := fun σ H R => ta σ H fun vs H1 => ∃ (a b : Addr) (xs ys : List V), vs = [.ref a, .ref b] ∧ SqT K H1 a xs ∧ SqT K H1 b ys ∧ R (Itn K a b) H1
theorem pi_zipN {X : Cx} {e e2 : Expr} {ta : TA} {p pos px : Pos} {nm : Str} (hg : Gl X "zip") (hm : X.mg "zip" = none) (ha : PA X [e, e2] ta) (hs : starEach [e, e2] X.env = (false, eval e X.env) :: starEach [e2] X.env := by rfl)
    (hpl : (backTo pos (starEach [e2] X.env)).any (·.1) = false := by rfl) : PI X (.Name nm px) (.Call (.Name "zip" p) [e, e2] [] pos) (iZipN X.K ta) := by
  constructor
  intro pins s σ H R I want
  refine Call_ (ld_blt I hg hm PyProof.Rows.boot_zip (PyProof.Rows.callWith_type1 (thn (ha.run pos pins s σ H _ I want) ?_) hs hpl))
  rintro us s1 ⟨vs, H1, J, rv, a, b, xs, ys, rfl, qx, qy, now⟩
  obtain ⟨u1, u2, rfl, r1, r2⟩ := vals2 rv
  cases r1
  cases r2
  obtain ⟨its, rx, p1, _⟩ := J.tuple qx
  obtain ⟨its2, ry, p2, _⟩ := J.tuple qy
  obtain ⟨o1, ho1, _⟩ := id p1
  obtain ⟨o2, ho2, _⟩ := id p2
  refine call_zipT (show s1.heap.IsTuple a its.toArray from p1) (show s1.heap.IsTuple b its2.toArray from p2) fun h' hz hI hO v1 v2 size keep => ?_
  have hz' : ZAt h' (s1.heap.objs.size + 4) (s1.heap.objs.size + 2) (s1.heap.objs.size + 3) .none false := hz
  refine iter_zn hz' ?_
  have J2 : Inv X pins σ H1 { s1 with heap := h' } := J.kept (t' := s1.toks) keep
  refine ⟨s1.heap.objs.size + 4, [s1.heap.objs.size + 4, s1.heap.objs.size + 2, s1.heap.objs.size + 3, s1.heap.objs.size, s1.heap.objs.size + 1], _, _, H1, rfl, J2, turn_zn (PySem.W.ktu_apart s1.heap.objs.size a b (Heap.lt_size ho1) (Heap.lt_size ho2)), ⟨⟨_, _, hz', .inl rfl⟩, hI, ⟨_, _, hO⟩, v1, v2⟩, fun c hc => ?_, now⟩
  have le : s1.heap.objs.size ≤ c := by
    rcases five hc with rfl | rfl | rfl | rfl | rfl <;> omega
  exact J.fpOk le (J.hok.fresh le)
theorem walk_zn {K : PySem.W.Frag} {a b : Addr} {xs ys : List V} (same : xs.length = ys.length) : Walk (Itn K a b) xs.length (fun H => SqT K H a xs ∧ SqT K H b ys) (YPair (fun i => xs[i]?) (fun i => ys[i]?)) := by
  refine ⟨fun i H lt ⟨h1, h2⟩ => ⟨xs, ys, xs[i], ys[i]'(by omega), h1, h2, List.getElem?_eq_getElem lt, List.getElem?_eq_getElem (by omega)⟩, fun H ⟨h1, _⟩ => ⟨xs, h1, Nat.le_refl _⟩, ?_⟩
  rintro i H v H' lt ⟨h1, h2⟩ ⟨T, x, y, rfl, nT, rfl, q1, q2⟩
  exact ⟨T, x, y, rfl, nT, rfl, q1 xs h1, q2 ys h2⟩
end Rt
namespace Rt
open PySem PySem.Spec L2
open PyProof.Rows hiding St
theorem call_maxK {X : Cx} {K : PySem.W.Frag} (hK : X.K = K) (hc : X.calm = true) (hu : X.A.units + 64 < cLine) : CallR X (.builtin "max") (rBest K fun i j => if j > i then j else i) := by
  subst hK
  exact call_maxP hc hu
theorem call_minK {X : Cx} {K : PySem.W.Frag} (hK : X.K = K) (hc : X.calm = true) (hu : X.A.units + 64 < cLine) : CallR X (.builtin "min") (rBest K fun i j => if j < i then j else i) := by
  subst hK
  exact call_minP hc hu
end Rt
namespace Rt
open PySem PySem.Spec L2
open PyProof.Rows hiding St
/-! ### methods and makers as the top has left them -/
structure MAt (K : PySem.W.Frag) (C : Addr) (m qual : Str) (st : Stmt) : Prop where
  ex : ∃ (f : Addr) (fd : FuncData), Meth K C m f ∧ Fun K m qual st f fd
structure MkAt (K : PySem.W.Frag) (mg : Str → Option Value) (x : Str) (C : Addr) (qual : Str) (st : Stmt) : Prop where
  ex : ∃ (f : Addr) (fd : FuncData), L2.Mk K C f ∧ mg x = some (.ref C) ∧ Fun K "__init__" qual st f fd
section
variable {P : Program} {w : World} {K : PySem.W.Frag} {mg : Str → Option Value} {base h : Heap} {x m qual : Str} {st : Stmt} {C : Addr}
theorem mat_mk {f : Addr} {oc kV dc pm cd ct : Value} {od an : Option Addr} {sl : Array (Option Value)} (a : PySem.W.findIn K (.ref C) m = some (some (.ref f))) (i : PySem.W.isFn K (.ref f) = true)
    (l : K.lookup f = some ⟨oc, od, .func (PySem.W.fnOf m qual (defArgs st) (defBody st) (defScope st) .none kV dc pm an cd ct), sl⟩) (c : PySem.W.codeIn K cd qual = true) (k : PySem.W.keepIn K (.ref f) = true) : MAt K C m qual st :=
  ⟨f, _, ⟨a, i, k⟩, fun_mk l c k⟩
theorem mkat_mk {f : Addr} {oc kV dc pm cd ct : Value} {od an : Option Addr} {sl : Array (Option Value)} (X : K.In h) (G : h.Ns mainGlobals mg) (n : PySem.W.nsIn K mainGlobals x = some (some (.ref C))) (mk : PySem.W.makesIn K C = true) (kc : PySem.W.keepIn K (.ref C) = true)
    (a : PySem.W.findIn K (.ref C) "__init__" = some (some (.ref f))) (i : PySem.W.isFn K (.ref f) = true)
    (l : K.lookup f = some ⟨oc, od, .func (PySem.W.fnOf "__init__" qual (defArgs st) (defBody st) (defScope st) .none kV dc pm an cd ct), sl⟩) (c : PySem.W.codeIn K cd qual = true) (k : PySem.W.keepIn K (.ref f) = true) : MkAt K mg x C qual st :=
  ⟨f, _, ⟨mk, a, i, kc⟩, PySem.W.mg_of X G n, fun_mk l c k⟩
theorem MAt.md {k : Nat} {ps : List Str} {sp : Sp} (A : MAt K C m qual st) (ok : ∀ (f : Addr) (fd : FuncData), Fun K m qual st f fd → FnOk P w K mg base CX0 k f fd ps sp)
    (bd : ∀ (f : Addr) (fd : FuncData), Fun K m qual st f fd → Binds K fd ps []) : Md P w K mg base k C m sp := by
  obtain ⟨f, fd, h, F⟩ := A.ex
  exact ⟨f, fd, ps, h, ok f fd F, bd f fd F⟩
theorem MkAt.mkr {k : Nat} {ps : List Str} {sp : Sp} (A : MkAt K mg x C qual st) (ok : ∀ (f : Addr) (fd : FuncData), Fun K "__init__" qual st f fd → FnOk P w K mg base CX0 k f fd ps sp)
    (bd : ∀ (f : Addr) (fd : FuncData), Fun K "__init__" qual st f fd → Binds K fd ps []) : Mkr P w K mg base k C x sp := by
  obtain ⟨f, fd, h, n, F⟩ := A.ex
  exact ⟨f, fd, ps, h, n, ok f fd F, bd f fd F⟩
end
end Rt
namespace Rt
open PySem PySem.Spec L2
open PyProof.Rows hiding St
/-! ### == and != by a class's own methods -/
def rOwn (C : Addr) (sp : Sp) : R2 := fun x y H Q => ∃ (a b dx dy : Addr) (fs gs : List (Str × V)), x = .ref a ∧ y = .ref b ∧ H a = some (.ins C dx fs) ∧ H b = some (.ins C dy gs) ∧ sp [.ref a, .ref b] H (fun v H' => ∃ c : Bool, v = .bl c ∧ Q (.bl c) H') E0
section
variable {X : Cx} {k j : Nat} {C : Addr} {sp : Sp}
theorem rc_own {op : CmpOp} {m : Str} (hm : (cmpInfo op).2.1 = m) (M : Md X.prog X.w X.K X.mg X.base k C m sp) (hr : Room j X.A) (hk : k ≤ j) {pins : List (Addr × Obj)} {s : Shared} {σ : L2.St} {H : Hp} {x y : V} {u v : Value} {Q : VK}
    (I : Inv X pins σ H s) (rx : L2.RelV x u) (ry : L2.RelV y v) (d : rOwn C sp x y H Q) : wpAny (model X.prog X.w) X.A (richCompare op u v) (EP X pins σ Q) X.xe s := by
  obtain ⟨a, b, dx, dy, fs, gs, rfl, rfl, ha, hb', hsp⟩ := d
  obtain ⟨f, fd, ps, mt, F, hb⟩ := M.ex
  cases rx
  cases ry
  obtain ⟨mA, J, _⟩ := ins_get I.hok ha
  obtain ⟨mB, J', _⟩ := ins_get I.hok hb'
  obtain ⟨od, J, _⟩ := J.look
  obtain ⟨od', J', _⟩ := J'.look
  obtain ⟨mm, hF⟩ := I.fr
  have hr' := hr.mono hk
  refine PySem.W.cmp_K (op := op) (tb := .ref C) hr'.units0 hF I.ok.mod.kin J J'.type (by simp [PySem.W.notFirst]) (by rw [hm]; exact mt.at_) mt.fn ?_
  have hl := F.len _ _ _ _ hsp
  have r2 : Vals [V.ref a, V.ref b] [Value.ref a, Value.ref b] := .cons rfl (.cons rfl .nil)
  refine wpAny_call (codeAny_mono (F.run X.A X.stack s H ⟨[.ref a, .ref b], []⟩ [.ref a, .ref b] [.ref a, .ref b] _ E0 hr' I.env0 (by
    have := hb s [.ref a, .ref b] I.kIn (by simpa using hl)
    simpa using this) r2 hsp) fun r s' hq => ?_)
  cases r with
  | error e => exact False.elim hq
  | ok fl =>
    cases fl with
    | ret w =>
      obtain ⟨z, H', I', rz, c, rfl, q⟩ := I.after hq
      cases rz
      exact ⟨.bl c, H', I', rfl, q⟩
    | next => exact False.elim hq
    | brk => exact False.elim hq
    | cont => exact False.elim hq
theorem op_ownEq (M : Md X.prog X.w X.K X.mg X.base k C "__eq__" sp) (hr : Room j X.A) (hk : k ≤ j) : OpR X (compareOp .Eq) (rOwn C sp) := by
  intro pins s σ H x y v u Q I rx ry hq
  show wpAny (model X.prog X.w) X.A (richCompare .Eq v u) (EP X pins σ Q) X.xe s
  exact rc_own rfl M hr hk I rx ry hq
theorem op_ownNe (M : Md X.prog X.w X.K X.mg X.base k C "__ne__" sp) (hr : Room j X.A) (hk : k ≤ j) : OpR X (compareOp .NotEq) (rOwn C sp) := by
  intro pins s σ H x y v u Q I rx ry hq
  show wpAny (model X.prog X.w) X.A (richCompare .NotEq v u) (EP X pins σ Q) X.xe s
  exact rc_own rfl M hr hk I rx ry hq
end
/-! ### list(range(a, b, c)) -/
def rgC (a c : Int) (n : Nat) : List V := (List.range n).map fun i => V.int (a + (i : Nat) * c)
theorem rgC_length (a c : Int) (n : Nat) : (rgC a c n).length = n := by unfold rgC; rw [List.length_map, List.length_range]
theorem vals_rgC {a c : Int} {n : Nat} {acc : Array Value} (h : ItemsOf (fun i v => ∃ t, v = .int (a + i * c) t) acc n) : Vals (rgC a c n) acc.toList := by
  have e : acc.toList.length = n := by rw [Array.length_toList]; exact h.1
  unfold rgC
  rw [← e]
  refine vals_of_get acc.toList _ fun j u hj => ?_
  obtain ⟨t, rfl⟩ := h.2 j u (by rw [← hj, Array.getElem?_toList])
  exact ⟨t, rfl⟩
def tLstRg3 (ta : TA) : TE := fun σ H Q => ta σ H fun vs H1 => ∃ (i j c : Int) (n : Nat), vs = [.int i, .int j, .int c] ∧ RgC i j c n ∧ n ≤ 2 ^ 23 ∧ ∀ q, H1 q = none → Q (.ref q) (upd H1 q (.lst (rgC i c n)))
section
variable {X : Cx} {a b c : Expr} {ta : TA} {p pos p2 pos2 : Pos}
theorem pe_listRg3 (hc : X.calm = true) (hg : Gl X "list") (hm : X.mg "list" = none) (hg2 : Gl X "range") (hm2 : X.mg "range" = none) (ha : PA X [a, b, c] ta)
    (hs : starEach [a, b, c] X.env = (false, eval a X.env) :: starEach [b, c] X.env := by rfl) (hpl : (backTo pos (starEach [b, c] X.env)).any (·.1) = false := by rfl)
    (na : starEach [.Call (.Name "range" p) [a, b, c] [] pos] X.env = (false, eval (.Call (.Name "range" p) [a, b, c] [] pos) X.env) :: starEach [] X.env := by rfl) :
    PE X (.Call (.Name "list" p2) [.Call (.Name "range" p) [a, b, c] [] pos] [] pos2) (tLstRg3 ta) := by
  refine ⟨fun pins s σ H Q I h => ?_⟩
  have inner : wpAny (model X.prog X.w) X.A (eval (.Call (.Name "range" p) [a, b, c] [] pos) X.env) (fun x s' => ∃ r i j k n t u v H', x = .ref r ∧ IsRange s'.heap r i j k t u v ∧ Inv X pins σ H' s' ∧ RgC i j k n ∧ n ≤ 2 ^ 23 ∧ ∀ q, H' q = none → Q (.ref q) (upd H' q (.lst (rgC i k n)))) X.xe s := by
    refine Call_ (ld_blt I hg2 hm2 boot_range (PyProof.Rows.callWith_type1 (thn (ha.run pos pins s σ H _ I h) fun us s1 ⟨vs, H1, I1, r1, q1⟩ => ?_) hs hpl))
    obtain ⟨i, j, k, n, e, ⟨c0, c1, c2, c3⟩, c4, q⟩ := q1
    subst e
    cases r1 with
    | cons r rr =>
      cases rr with
      | cons r' rr =>
        cases rr with
        | cons r'' rr =>
          cases rr
          obtain ⟨t, rfl⟩ := r
          obtain ⟨t', rfl⟩ := r'
          obtain ⟨t'', rfl⟩ := r''
          refine call_range_3 c0 ?_ (.inl (PyProof.noPylong_small c1))
          exact ⟨_, i, j, k, n, _, _, _, H1, rfl, IsRange.new _ _ _ _ _ _ _, I1.kept (t' := s1.toks) fun b o e => Heap.get?_push_of_some _ e, ⟨c0, c1, c2, c3⟩, c4, q⟩
  refine Call_ (ld_blt I hg hm boot_list (PyProof.Rows.callWith_type1 (args_cons (thn inner fun x s1 ⟨r, i, j, k, n, t, u, v, H1, ex, hr, I1, ok, le, q⟩ => args_nil ?_) na) na))
  subst ex
  obtain ⟨b1, b2, b3, b4⟩ := ok
  refine call_list_range (n := n) (I1.ok.hd hc) hr b3 b4 (Nat.le_trans le (by decide)) fun h' tk acc c' hk e' hi => ?_
  refine ⟨.ref s1.heap.objs.size, upd H1 s1.heap.objs.size (.lst (rgC i k n)), I1.laid hk (Nat.le_refl _) (show ObjOk X.prog X.w _ _ _ (.lst (rgC i k n)) from ⟨?_, acc.toList, c', vals_rgC hi, ?_⟩), rfl, q _ (I1.hok.fresh (Nat.le_refl _))⟩
  · rw [rgC_length, sizeLine_eq]; omega
  · rw [Array.toArray_toList]; exact e'
end
end Rt
/-! own mathematics: rising over rules comes to its end within so many laps as there are numbers, or there is no timetable -/
namespace Rise
def upc (f s x : Int) : Int := f + (x - f + s - 1) / s * s
theorem upc_on (f s x : Int) : (upc f s x - f) % s = 0 := by
  unfold upc
  rw [show f + (x - f + s - 1) / s * s - f = (x - f + s - 1) / s * s by omega]
  exact Int.mul_emod_left _ _
theorem upc_ge {f s x : Int} (h : 0 < s) : x ≤ upc f s x := by
  unfold upc
  have e := Int.emod_add_mul_ediv (x - f + s - 1) s
  have l := Int.emod_lt_of_pos (x - f + s - 1) h
  rw [Int.mul_comm] at e
  omega
theorem upc_lt {f s x : Int} (h : 0 < s) : upc f s x < x + s := by
  unfold upc
  have e := Int.emod_add_mul_ediv (x - f + s - 1) s
  have l := Int.emod_nonneg (x - f + s - 1) (Int.ne_of_gt h)
  rw [Int.mul_comm] at e
  omega
/-- two numbers of a clock that are less than a step apart -/
theorem near_le {f s a b : Int} (h : 0 < s) (ha : (a - f) % s = 0) (hb : (b - f) % s = 0) (lt : a < b + s) : a ≤ b := by
  obtain ⟨i, hi⟩ := Int.dvd_of_emod_eq_zero ha
  obtain ⟨j, hj⟩ := Int.dvd_of_emod_eq_zero hb
  have e : a - b = s * (i - j) := by rw [Int.mul_sub]; omega
  have l : s * (i - j) < s * 1 := by rw [← e, Int.mul_one]; omega
  have q := Int.lt_of_mul_lt_mul_left l (Int.le_of_lt h)
  have : s * (i - j) ≤ s * 0 := Int.mul_le_mul_of_nonneg_left (by omega) (Int.le_of_lt h)
  rw [Int.mul_zero] at this
  omega
theorem upc_least {f s x z : Int} (h : 0 < s) (le : x ≤ z) (on : (z - f) % s = 0) : upc f s x ≤ z :=
  near_le h (upc_on f s x) on (by have := upc_lt (f := f) (x := x) h; omega)
theorem on_add {f s z N K : Int} (d : s ∣ N) (on : (z - f) % s = 0) : (z - K * N - f) % s = 0 := by
  obtain ⟨q, rfl⟩ := d
  rw [show z - K * (s * q) - f = (z - f) - s * (K * q) by rw [show K * (s * q) = s * (K * q) by rw [Int.mul_left_comm]]; omega]
  obtain ⟨i, hi⟩ := Int.dvd_of_emod_eq_zero on
  rw [hi, ← Int.mul_sub]
  exact Int.mul_emod_right _ _
theorem nodup_len : ∀ (M : Nat) (l : List Nat), l.Nodup → (∀ x, x ∈ l → x < M) → l.length ≤ M
  | 0, l, _, h => by
    cases l with
    | nil => exact Nat.le_refl _
    | cons x l => exact absurd (h x List.mem_cons_self) (Nat.not_lt_zero _)
  | M + 1, l, nd, h => by
    have q := nodup_len M (l.erase M) (List.Nodup.erase M nd) (fun x m => by
      have z := (List.Nodup.mem_erase_iff nd).mp m
      have := h x z.2
      have := z.1
      omega)
    rw [List.length_erase] at q
    split at q <;> omega
def code (N : Nat) (a : Nat × Int) : Nat := a.1 * N + (a.2 % (N : Int)).toNat
theorem code_inj {N : Nat} (h : 0 < N) {p q : Nat} {x y : Int} (e : code N (p, x) = code N (q, y)) : p = q ∧ x % (N : Int) = y % (N : Int) := by
  unfold code at e
  have b1 := Int.emod_nonneg x (show (N : Int) ≠ 0 by omega)
  have b2 := Int.emod_nonneg y (show (N : Int) ≠ 0 by omega)
  have c1 := Int.emod_lt_of_pos x (show (0 : Int) < N by omega)
  have c2 := Int.emod_lt_of_pos y (show (0 : Int) < N by omega)
  simp only at e
  have r1 : (x % (N : Int)).toNat < N := by omega
  have r2 : (y % (N : Int)).toNat < N := by omega
  have m1 : (p * N + (x % (N : Int)).toNat) % N = (x % (N : Int)).toNat := by rw [Nat.mul_comm, Nat.mul_add_mod, Nat.mod_eq_of_lt r1]
  have m2 : (q * N + (y % (N : Int)).toNat) % N = (y % (N : Int)).toNat := by rw [Nat.mul_comm, Nat.mul_add_mod, Nat.mod_eq_of_lt r2]
  rw [e, m2] at m1
  have pq : p * N = q * N := by omega
  exact ⟨Nat.eq_of_mul_eq_mul_right h pq, by omega⟩
section
variable {n N : Nat} {f s T : Nat → Int}
/-- how a number has come: a row of numbers, each led to by the next one -/
structure Chain (n N : Nat) (T X : Nat → Int) (p k : Nat) : Prop where
  ex : ∃ c : List (Nat × Int), c.length = k + 1 ∧ (∀ a, a ∈ c → a.1 < n ∧ a.2 ≤ X a.1 ∧ ∀ K : Int, a.2 + K * N ≤ T a.1 → X p + K * N ≤ T p) ∧ (c.map (code N)).Nodup
theorem Chain.start {X : Nat → Int} {p : Nat} (h : p < n) : Chain n N T X p 0 :=
  ⟨[(p, X p)], rfl, fun a m => by cases List.mem_singleton.mp m; exact ⟨h, Int.le_refl _, fun K z => z⟩, by simp⟩
theorem Chain.bound {X : Nat → Int} {p k : Nat} (h0 : 0 < N) (h : Chain n N T X p k) : k + 1 ≤ n * N := by
  obtain ⟨c, l, a, nd⟩ := h.ex
  have q := nodup_len (n * N) (c.map (code N)) nd (fun x m => by
    obtain ⟨b, hb, rfl⟩ := List.mem_map.mp m
    have hb1 := (a b hb).1
    unfold code
    have c2 := Int.emod_lt_of_pos b.2 (show (0 : Int) < N by omega)
    have b2 := Int.emod_nonneg b.2 (show (N : Int) ≠ 0 by omega)
    have : (b.1 + 1) * N ≤ n * N := Nat.mul_le_mul_right N hb1
    rw [Nat.add_mul, Nat.one_mul] at this
    omega)
  rw [List.length_map, l] at q
  exact q
theorem Chain.keep {X Y : Nat → Int} {p k : Nat} (h : Chain n N T X p k) (up : ∀ q, X q ≤ Y q) (e : Y p = X p) : Chain n N T Y p k := by
  obtain ⟨c, l, a, nd⟩ := h.ex
  refine ⟨c, l, fun b m => ?_, nd⟩
  obtain ⟨a1, a2, a3⟩ := a b m
  exact ⟨a1, Int.le_trans a2 (up _), fun K z => by rw [e]; exact a3 K z⟩
theorem Chain.raise {X Y : Nat → Int} {p q k : Nat} {l : Int} (h0 : 0 < N) (hp : p < n) (sp : 0 < s p) (sd : s p ∣ (N : Int)) (tp : (T p - f p) % s p = 0) (ok : T q + l ≤ T p) (h : Chain n N T X q k)
    (gt : X p < upc (f p) (s p) (X q + l)) (e : Y p = upc (f p) (s p) (X q + l)) (up : ∀ q, X q ≤ Y q) : Chain n N T Y p (k + 1) := by
  obtain ⟨c, lc, a, nd⟩ := h.ex
  have led : ∀ K : Int, X q + K * N ≤ T q → Y p + K * N ≤ T p := fun K z => by
    rw [e]
    have := upc_least (x := X q + l) (z := T p - K * N) sp (by omega) (on_add sd tp)
    omega
  refine ⟨(p, Y p) :: c, by rw [List.length_cons, lc], fun b m => ?_, ?_⟩
  · rcases List.mem_cons.mp m with rfl | m
    · exact ⟨hp, Int.le_refl _, fun K z => z⟩
    · obtain ⟨a1, a2, a3⟩ := a b m
      exact ⟨a1, Int.le_trans a2 (up _), fun K z => led K (a3 K z)⟩
  · rw [List.map_cons, List.nodup_cons]
    refine ⟨fun m => ?_, nd⟩
    obtain ⟨b, hb, eb⟩ := List.mem_map.mp m
    obtain ⟨a1, a2, a3⟩ := a b hb
    obtain ⟨b1, b2⟩ := b
    obtain ⟨rfl, em⟩ := code_inj h0 eb
    simp only at a2 a3
    have lt : b2 < Y b1 := by rw [e]; omega
    have d : (N : Int) ∣ Y b1 - b2 := Int.dvd_of_emod_eq_zero (Int.emod_eq_emod_iff_emod_sub_eq_zero.mp em.symm)
    have le : (N : Int) ≤ Y b1 - b2 := Int.le_of_dvd (by omega) d
    have z1 := Int.emod_add_mul_ediv (T b1 - b2) (N : Int)
    have z2 := Int.emod_nonneg (T b1 - b2) (show (N : Int) ≠ 0 by omega)
    have z3 := Int.emod_lt_of_pos (T b1 - b2) (show (0 : Int) < N by omega)
    rw [Int.mul_comm] at z1
    have w := led _ (a3 ((T b1 - b2) / (N : Int)) (by omega))
    omega
/-- what stands in a lap: each rule is kept, or a number ahead of it has come far -/
structure Lap (n N : Nat) (T : Nat → Int) (RA : Nat → Nat → Nat → Int → Prop) (X : Nat → Int) (m t : Nat) : Prop where
  ex : ∃ L : Nat → Nat, (∀ p, p < n → Chain n N T X p (L p)) ∧ ∀ k i j l, RA k i j l → X i + l ≤ X j ∨ (if k < t then m + 1 else m) ≤ L i
variable {RA : Nat → Nat → Nat → Int → Prop}
theorem Lap.start {X : Nat → Int} : Lap n N T RA X 0 0 := ⟨fun _ => 0, fun p h => Chain.start h, fun k i j l _ => .inr (by simp)⟩
theorem Lap.next {X : Nat → Int} {m t : Nat} (h : Lap n N T RA X m t) (all : ∀ k i j l, RA k i j l → k < t) : Lap n N T RA X (m + 1) 0 := by
  obtain ⟨L, h1, h2⟩ := h.ex
  refine ⟨L, h1, fun k i j l r => ?_⟩
  have := h2 k i j l r
  rw [if_pos (all k i j l r)] at this
  simpa using this
theorem Lap.still {X : Nat → Int} {m t i j : Nat} {l : Int} (h : Lap n N T RA X m t) (uniq : ∀ i' j' l', RA t i' j' l' → i' = i ∧ j' = j ∧ l' = l) (le : X i + l ≤ X j) : Lap n N T RA X m (t + 1) := by
  obtain ⟨L, h1, h2⟩ := h.ex
  refine ⟨L, h1, fun k i' j' l' r => ?_⟩
  by_cases e : k = t
  · subst e
    obtain ⟨rfl, rfl, rfl⟩ := uniq _ _ _ r
    exact .inl le
  · rcases h2 k i' j' l' r with z | z
    · exact .inl z
    · refine .inr ?_
      by_cases lt : k < t
      · rw [if_pos lt] at z
        rw [if_pos (by omega)]
        exact z
      · rw [if_neg lt] at z
        rw [if_neg (by omega)]
        exact z
theorem Lap.raise {X Y : Nat → Int} {m t i j : Nat} {l : Int} (h0 : 0 < N) (h : Lap n N T RA X m t) (r : RA t i j l) (uniq : ∀ i' j' l', RA t i' j' l' → i' = i ∧ j' = j ∧ l' = l) (hi : i < n) (hj : j < n)
    (sp : 0 < s j) (sd : s j ∣ (N : Int)) (tp : (T j - f j) % s j = 0) (ok : T i + l ≤ T j) (on : (X j - f j) % s j = 0)
    (gt : X j < upc (f j) (s j) (X i + l)) (e : Y j = upc (f j) (s j) (X i + l)) (same : ∀ q, q ≠ j → Y q = X q) : Lap n N T RA Y m (t + 1) ∧ m + 2 ≤ n * N := by
  obtain ⟨L, h1, h2⟩ := h.ex
  have up : ∀ q, X q ≤ Y q := fun q => by
    by_cases z : q = j
    · subst z
      rw [e]
      omega
    · rw [same q z]
      exact Int.le_refl _
  have far : m ≤ L i := by
    rcases h2 t i j l r with z | z
    · exact absurd (upc_least sp z on) (by omega)
    · rw [if_neg (by omega)] at z
      exact z
  have ch := (h1 i hi).raise h0 hj sp sd tp ok gt e up
  refine ⟨⟨fun q => if q = j then L i + 1 else L q, fun p hp => ?_, fun k i' j' l' r' => ?_⟩, ?_⟩
  · by_cases z : p = j
    · subst z
      simp only [if_true]
      exact ch
    · simp only [if_neg z]
      exact (h1 p hp).keep up (same p z)
  · by_cases z : i' = j
    · right
      simp only [if_pos z]
      split <;> omega
    · simp only [if_neg z]
      rw [same i' z]
      by_cases et : k = t
      · subst et
        obtain ⟨rfl, rfl, rfl⟩ := uniq _ _ _ r'
        left
        rw [e]
        exact upc_ge sp
      · rcases h2 k i' j' l' r' with y | y
        · exact .inl (Int.le_trans y (up _))
        · right
          by_cases lt : k < t
          · rw [if_pos lt] at y
            rw [if_pos (by omega)]
            exact y
          · rw [if_neg lt] at y
            rw [if_neg (by omega)]
            exact y
  · have := ch.bound h0
    omega
end
end Rise
/-! own mathematics: leads as functions -/
namespace Ld
/-- the numbers of a clock from 0 to n - 1 -/
def nums (f s n : Int) : List Int := (List.range (n / s).toNat).map fun i => f % s + (i : Nat) * s
def valL (s n : Int) (row : List Int) (v : Int) : Int := row.getD (v % n / s).toNat 0 + (v - v % n)
theorem nums_len (f s n : Int) : (nums f s n).length = (n / s).toNat := by unfold nums; rw [List.length_map, List.length_range]
theorem nums_at {f s n : Int} {i : Nat} (h : i < (n / s).toNat) : (nums f s n)[i]? = some (f % s + (i : Nat) * s) := by
  unfold nums
  rw [List.getElem?_map, List.getElem?_range h]
  rfl
theorem mem_nums {f s n v : Int} (s0 : 0 < s) (d : s ∣ n) : v ∈ nums f s n ↔ 0 ≤ v ∧ v < n ∧ (v - f) % s = 0 := by
  obtain ⟨q, rfl⟩ := d
  have e1 : s * q / s = q := Int.mul_ediv_cancel_left q (by omega)
  unfold nums
  rw [List.mem_map]
  have r0 := Int.emod_nonneg f (show s ≠ 0 by omega)
  have r1 := Int.emod_lt_of_pos f s0
  have ef := Int.emod_add_mul_ediv f s
  constructor
  · rintro ⟨i, hi, rfl⟩
    rw [List.mem_range, e1] at hi
    have hq : (i : Int) + 1 ≤ q := by omega
    have m : s * ((i : Int) + 1) ≤ s * q := Int.mul_le_mul_of_nonneg_left hq (by omega)
    have i0 : 0 ≤ (i : Int) * s := Int.mul_nonneg (by omega) (by omega)
    rw [Int.mul_add, Int.mul_one, Int.mul_comm s] at m
    refine ⟨by omega, by omega, ?_⟩
    rw [show f % s + (i : Int) * s - f = s * ((i : Int) - f / s) by rw [Int.mul_sub, Int.mul_comm s (i : Int)]; omega]
    exact Int.mul_emod_right _ _
  · rintro ⟨h0, h1, h2⟩
    obtain ⟨k, hk⟩ := Int.dvd_of_emod_eq_zero h2
    have ek : v = f % s + s * (k + f / s) := by rw [Int.mul_add]; omega
    have k0 : 0 ≤ k + f / s := by
      rcases Int.lt_or_le (k + f / s) 0 with h | h
      · have : s * (k + f / s) ≤ s * (-1) := Int.mul_le_mul_of_nonneg_left (by omega) (by omega)
        omega
      · exact h
    have k1 : k + f / s < q := by
      rcases Int.lt_or_le (k + f / s) q with h | h
      · exact h
      · have : s * q ≤ s * (k + f / s) := Int.mul_le_mul_of_nonneg_left h (by omega)
        omega
    refine ⟨(k + f / s).toNat, by rw [List.mem_range, e1]; omega, ?_⟩
    rw [Int.toNat_of_nonneg k0, Int.mul_comm (k + f / s)]
    exact ek.symm
theorem nums_sorted (f : Int) {s : Int} (n : Int) (s0 : 0 < s) : (nums f s n).Pairwise (· < ·) := by
  unfold nums
  rw [List.pairwise_map]
  refine List.Pairwise.imp ?_ List.pairwise_lt_range
  intro a b lt
  have : (a : Int) * s < (b : Int) * s := Int.mul_lt_mul_of_pos_right (by omega) s0
  omega
/-- two ascending lists with the same members -/
theorem sorted_ext : ∀ (l m : List Int), l.Pairwise (· < ·) → m.Pairwise (· < ·) → (∀ x, x ∈ l ↔ x ∈ m) → l = m
  | [], [], _, _, _ => rfl
  | [], b :: m, _, _, h => absurd ((h b).mpr List.mem_cons_self) (by simp)
  | a :: l, [], _, _, h => absurd ((h a).mp List.mem_cons_self) (by simp)
  | a :: l, b :: m, hl, hm, h => by
    have l1 := List.pairwise_cons.mp hl
    have m1 := List.pairwise_cons.mp hm
    have ab : a = b := by
      rcases List.mem_cons.mp ((h a).mp List.mem_cons_self) with e | e
      · exact e
      · rcases List.mem_cons.mp ((h b).mpr List.mem_cons_self) with e2 | e2
        · exact e2.symm
        · have := m1.1 a e
          have := l1.1 b e2
          omega
    subst ab
    rw [sorted_ext l m l1.2 m1.2 fun x => ?_]
    constructor
    · intro hx
      rcases List.mem_cons.mp ((h x).mp (List.mem_cons_of_mem _ hx)) with e | e
      · have := l1.1 x hx
        omega
      · exact e
    · intro hx
      rcases List.mem_cons.mp ((h x).mpr (List.mem_cons_of_mem _ hx)) with e | e
      · have := m1.1 x hx
        omega
      · exact e
theorem range_cast_sorted (n : Nat) : ((List.range n).map fun i => ((i : Nat) : Int)).Pairwise (· < ·) := by
  rw [List.pairwise_map]
  exact List.Pairwise.imp (fun h => by omega) List.pairwise_lt_range
/-- the law's own way to the numbers -/
theorem nums_filter {f s : Int} {n : Nat} (s0 : 0 < s) (d : s ∣ (n : Int)) : ((List.range n).map fun i => ((i : Nat) : Int)).filter (fun v => decide ((v - f) % s = 0)) = nums f s n := by
  refine sorted_ext _ _ (List.Pairwise.filter _ (range_cast_sorted n)) (nums_sorted f n s0) fun x => ?_
  rw [List.mem_filter, mem_nums s0 d, List.mem_map, decide_eq_true_eq]
  constructor
  · rintro ⟨⟨i, hi, rfl⟩, h⟩
    rw [List.mem_range] at hi
    exact ⟨by omega, by omega, h⟩
  · rintro ⟨h0, h1, h2⟩
    exact ⟨⟨x.toNat, by rw [List.mem_range]; omega, by omega⟩, h2⟩
/-- what a lead is -/
structure Sem (f s g r n : Int) (F : Int → Int) : Prop where
  s0 : 0 < s
  r0 : 0 < r
  n0 : 0 < n
  sd : s ∣ n
  rd : r ∣ n
  on : ∀ v, (v - f) % s = 0 → (F v - g) % r = 0
  mono : ∀ v u, (v - f) % s = 0 → (u - f) % s = 0 → v ≤ u → F v ≤ F u
  per : ∀ v, (v - f) % s = 0 → F (v + n) = F v + n
theorem on_add {f s v n : Int} (d : s ∣ n) (h : (v - f) % s = 0) : (v + n - f) % s = 0 := by
  obtain ⟨q, rfl⟩ := d
  rw [show v + s * q - f = v - f + s * q by omega, Int.add_mul_emod_self_left]
  exact h
theorem on_mul {f s v n k : Int} (d : s ∣ n) (h : (v - f) % s = 0) : (v + k * n - f) % s = 0 := on_add (Int.dvd_trans d (Int.dvd_mul_left _ _)) h
theorem on_rest {f s v n : Int} (d : s ∣ n) (h : (v - f) % s = 0) : (v % n - f) % s = 0 := by
  have e := Int.emod_add_mul_ediv v n
  rw [show v % n = v + (-(v / n)) * n by rw [Int.neg_mul, Int.mul_comm (v / n)]; omega]
  exact on_mul d h
section
variable {f s g r n : Int} {F : Int → Int}
theorem Sem.pers (h : Sem f s g r n F) {v : Int} (hv : (v - f) % s = 0) : ∀ k : Nat, F (v + k * n) = F v + k * n
  | 0 => by simp
  | k + 1 => by
    have e : v + ((k + 1 : Nat) : Int) * n = v + (k : Int) * n + n := by rw [Int.natCast_add, Int.add_mul]; omega
    rw [e, h.per _ (on_mul h.sd hv), h.pers hv k, Int.natCast_add, Int.add_mul]
    omega
theorem Sem.perz (h : Sem f s g r n F) {v : Int} (hv : (v - f) % s = 0) (k : Int) : F (v + k * n) = F v + k * n := by
  rcases Int.le_total 0 k with z | z
  · obtain ⟨m, rfl⟩ := Int.eq_ofNat_of_zero_le z
    exact h.pers hv m
  · obtain ⟨m, hm⟩ := Int.eq_ofNat_of_zero_le (show 0 ≤ -k by omega)
    have q := h.pers (v := v + k * n) (on_mul h.sd hv) m
    rw [show v + k * n + (m : Int) * n = v by rw [← hm, Int.neg_mul]; omega] at q
    rw [← hm, Int.neg_mul] at q
    omega
theorem Sem.val (h : Sem f s g r n F) {v : Int} (hv : (v - f) % s = 0) : valL s n ((nums f s n).map F) v = F v := by
  have e := Int.emod_add_mul_ediv v n
  have b0 := Int.emod_nonneg v (show n ≠ 0 from by have := h.n0; omega)
  have b1 := Int.emod_lt_of_pos v h.n0
  have o := on_rest h.sd hv
  have m := (mem_nums h.s0 h.sd).mpr ⟨b0, b1, o⟩
  obtain ⟨i, hi, ei⟩ := List.getElem_of_mem m
  have hi' : i < (n / s).toNat := by rw [nums_len] at hi; exact hi
  have at_ := nums_at (f := f) hi'
  rw [List.getElem?_eq_getElem hi, ei] at at_
  have ev : v % n = f % s + (i : Int) * s := Option.some.inj at_
  have r0 := Int.emod_nonneg f (show s ≠ 0 from by have := h.s0; omega)
  have r1 := Int.emod_lt_of_pos f h.s0
  have di : v % n / s = (i : Int) := by
    rw [ev, Int.add_mul_ediv_right _ _ (by have := h.s0; omega), Int.ediv_eq_zero_of_lt r0 r1]
    omega
  unfold valL
  rw [di, Int.toNat_natCast, List.getD_eq_getElem?_getD, List.getElem?_map, List.getElem?_eq_getElem hi, ei]
  show F (v % n) + (v - v % n) = F v
  have q := h.perz o (v / n)
  rw [show v % n + v / n * n = v by rw [Int.mul_comm (v / n)]; omega] at q
  rw [q, Int.mul_comm (v / n)]
  omega
theorem Sem.times (h : Sem f s g r n F) {t : Nat} (t0 : 0 < t) : Sem f s g r (t * n) F := by
  refine ⟨h.s0, h.r0, Int.mul_pos (by omega) h.n0, Int.dvd_trans h.sd (Int.dvd_mul_left _ _), Int.dvd_trans h.rd (Int.dvd_mul_left _ _), h.on, h.mono, fun v hv => h.pers hv t⟩
theorem Sem.comp {g' s' r' e : Int} {G : Int → Int} (h : Sem f s g r n F) (k : Sem g' r e r' n G) (al : (g - g') % r = 0) : Sem f s e r' n (fun v => G (F v)) := by
  have tr : ∀ v, (v - f) % s = 0 → (F v - g') % r = 0 := fun v hv => by
    obtain ⟨a, ha⟩ := Int.dvd_of_emod_eq_zero (h.on v hv)
    obtain ⟨b, hb⟩ := Int.dvd_of_emod_eq_zero al
    rw [show F v - g' = r * (a + b) by rw [Int.mul_add]; omega]
    exact Int.mul_emod_right _ _
  exact ⟨h.s0, k.r0, h.n0, h.sd, k.rd, fun v hv => k.on _ (tr v hv), fun v u hv hu le => k.mono _ _ (tr v hv) (tr u hu) (h.mono v u hv hu le), fun v hv => by
    show G (F (v + n)) = G (F v) + n
    rw [h.per v hv, k.per _ (tr v hv)]⟩
theorem Sem.max {G : Int → Int} (h : Sem f s g r n F) (k : Sem f s g r n G) : Sem f s g r n (fun v => if G v > F v then G v else F v) := by
  refine ⟨h.s0, h.r0, h.n0, h.sd, h.rd, fun v hv => ?_, fun v u hv hu le => ?_, fun v hv => ?_⟩
  · show ((if G v > F v then G v else F v) - g) % r = 0
    split
    · exact k.on v hv
    · exact h.on v hv
  · show (if G v > F v then G v else F v) ≤ (if G u > F u then G u else F u)
    have a := h.mono v u hv hu le
    have b := k.mono v u hv hu le
    split <;> split <;> omega
  · show (if G (v + n) > F (v + n) then G (v + n) else F (v + n)) = (if G v > F v then G v else F v) + n
    rw [h.per v hv, k.per v hv]
    split <;> split <;> omega
/-- alike clocks at the start -/
theorem Sem.alike {f' : Int} (h : Sem f s g r n F) (al : (f' - f) % s = 0) : Sem f' s g r n F := by
  have tr : ∀ v, (v - f') % s = 0 → (v - f) % s = 0 := fun v hv => by
    obtain ⟨a, ha⟩ := Int.dvd_of_emod_eq_zero hv
    obtain ⟨b, hb⟩ := Int.dvd_of_emod_eq_zero al
    rw [show v - f = s * (a + b) by rw [Int.mul_add]; omega]
    exact Int.mul_emod_right _ _
  exact ⟨h.s0, h.r0, h.n0, h.sd, h.rd, fun v hv => h.on v (tr v hv), fun v u hv hu => h.mono v u (tr v hv) (tr u hu), fun v hv => h.per v (tr v hv)⟩
theorem emod_alike {f' : Int} (s0 : 0 < s) (al : (f' - f) % s = 0) : f' % s = f % s := Int.emod_eq_emod_iff_emod_sub_eq_zero.mpr al
theorem nums_alike {f' : Int} (s0 : 0 < s) (al : (f' - f) % s = 0) : nums f' s n = nums f s n := by
  unfold nums
  rw [emod_alike s0 al]
theorem nums_on {f s n v : Int} (s0 : 0 < s) (d : s ∣ n) (h : v ∈ nums f s n) : (v - f) % s = 0 := ((mem_nums s0 d).mp h).2.2
/-- the numbers over more periods -/
theorem nums_times (s0 : 0 < s) (n0 : 0 < n) (d : s ∣ n) (t : Nat) : nums f s (t * n) = (List.range t).flatMap fun k => (nums f s n).map (· + (k : Nat) * n) := by
  obtain ⟨q, rfl⟩ := d
  have e1 : ∀ k : Int, k * (s * q) / s = k * q := fun k => by
    rw [show k * (s * q) = s * (k * q) by rw [Int.mul_left_comm]]
    exact Int.mul_ediv_cancel_left _ (by omega)
  have e2 : s * q / s = q := Int.mul_ediv_cancel_left q (by omega)
  have q0 : 0 < q := Int.pos_of_mul_pos_right n0 s0
  induction t with
  | zero =>
    unfold nums
    simp
  | succ t ih =>
    rw [List.range_succ, List.flatMap_append, ← ih]
    unfold nums
    rw [e1, e1, e2]
    have e3 : (((t + 1 : Nat) : Int) * q).toNat = ((t : Int) * q).toNat + q.toNat := by
      rw [Int.natCast_add, Int.add_mul]
      have : 0 ≤ (t : Int) * q := Int.mul_nonneg (by omega) (by omega)
      omega
    have tn : 0 ≤ (t : Int) * q := Int.mul_nonneg (by omega) (by omega)
    rw [e3, List.range_add, List.map_append]
    congr 1
    rw [List.flatMap_cons, List.flatMap_nil, List.append_nil, List.map_map, List.map_map]
    refine List.map_congr_left fun i _ => ?_
    show f % s + ((((t : Int) * q).toNat + i : Nat) : Int) * s = f % s + (i : Int) * s + (t : Int) * (s * q)
    rw [Int.natCast_add, Int.toNat_of_nonneg tn, Int.add_mul, show (t : Int) * q * s = (t : Int) * (s * q) by rw [Int.mul_assoc, Int.mul_comm q]]
    omega
theorem Sem.row_times (h : Sem f s g r n F) (t : Nat) : ((List.range t).flatMap fun k => ((nums f s n).map F).map (· + (k : Nat) * n)) = (nums f s (t * n)).map F := by
  rw [nums_times h.s0 h.n0 h.sd, List.map_flatMap]
  congr 1
  funext k
  rw [List.map_map, List.map_map]
  refine List.map_congr_left fun v hv => ?_
  exact (h.pers (nums_on h.s0 h.sd hv) k).symm
/-! ### jumps -/
def jmp (s : Int) (F : Int → Int) (v : Int) : Bool := decide (F (v - s) < F v)
def jumpsOf (f s n : Int) (F : Int → Int) : List Int := (nums f s n).filter (jmp s F)
theorem on_sub {v : Int} (h : (v - f) % s = 0) : (v - s - f) % s = 0 := by
  rw [show v - s - f = v - f + s * (-1) by omega, Int.add_mul_emod_self_left]
  exact h
theorem Sem.jmp_shift (h : Sem f s g r n F) {v : Int} (hv : (v - f) % s = 0) (k : Nat) : jmp s F (v + k * n) = jmp s F v := by
  unfold jmp
  rw [show v + (k : Int) * n - s = v - s + (k : Int) * n by omega, h.pers hv k, h.pers (on_sub hv) k]
  by_cases e : F (v - s) < F v
  · rw [decide_eq_true e, decide_eq_true (by omega)]
  · rw [decide_eq_false e, decide_eq_false (by omega)]
theorem Sem.jumps_times (h : Sem f s g r n F) (t : Nat) : jumpsOf f s (t * n) F = (List.range t).flatMap fun k => (jumpsOf f s n F).map (· + (k : Nat) * n) := by
  unfold jumpsOf
  rw [nums_times h.s0 h.n0 h.sd, List.filter_flatMap]
  congr 1
  funext k
  rw [List.filter_map]
  congr 1
  refine List.filter_congr fun v hv => ?_
  exact h.jmp_shift (nums_on h.s0 h.sd hv) k
/-- no jump in so many steps -/
theorem Sem.flat (h : Sem f s g r n F) {v : Int} (hv : (v - f) % s = 0) : ∀ k : Nat, (∀ i : Nat, i < k → jmp s F (v - (i : Int) * s) = false) → F (v - (k : Int) * s) = F v
  | 0, _ => by simp
  | k + 1, no => by
    have q := h.flat hv k fun i hi => no i (by omega)
    have z := no k (by omega)
    have on' : (v - (k : Int) * s - f) % s = 0 := by
      rw [show v - (k : Int) * s - f = v - f + s * (-(k : Int)) by rw [Int.mul_neg, Int.mul_comm s]; omega, Int.add_mul_emod_self_left]
      exact hv
    unfold jmp at z
    have le := h.mono (v - (k : Int) * s - s) (v - (k : Int) * s) (on_sub on') on' (by have := h.s0; omega)
    have nl := of_decide_eq_false z
    rw [show v - ((k + 1 : Nat) : Int) * s = v - (k : Int) * s - s by rw [Int.natCast_add, Int.add_mul]; omega]
    omega
theorem steps_between {u v : Int} (s0 : 0 < s) (hu : (u - f) % s = 0) (hv : (v - f) % s = 0) (le : u ≤ v) : ∃ k : Nat, u = v - (k : Int) * s := by
  obtain ⟨a, ha⟩ := Int.dvd_of_emod_eq_zero hu
  obtain ⟨b, hb⟩ := Int.dvd_of_emod_eq_zero hv
  have e : v - u = s * (b - a) := by rw [Int.mul_sub]; omega
  have nn : 0 ≤ b - a := by
    rcases Int.lt_or_le (b - a) 0 with z | z
    · have : s * (b - a) ≤ s * (-1) := Int.mul_le_mul_of_nonneg_left (by omega) (by omega)
      omega
    · exact z
  refine ⟨(b - a).toNat, ?_⟩
  rw [Int.toNat_of_nonneg nn, Int.mul_comm (b - a)]
  omega
/-- no jump behind u up to v -/
theorem Sem.calm (h : Sem f s g r n F) {u v : Int} (hu : (u - f) % s = 0) (hv : (v - f) % s = 0) (le : u ≤ v) (no : ∀ w, (w - f) % s = 0 → u < w → w ≤ v → jmp s F w = false) : F u = F v := by
  obtain ⟨k, rfl⟩ := steps_between h.s0 hu hv le
  refine h.flat hv k fun i hi => ?_
  have lt : (i : Int) * s < (k : Int) * s := Int.mul_lt_mul_of_pos_right (by omega) h.s0
  have i0 : 0 ≤ (i : Int) * s := Int.mul_nonneg (by omega) (by have := h.s0; omega)
  refine no _ ?_ (by omega) (by omega)
  rw [show v - (i : Int) * s - f = v - f + s * (-(i : Int)) by rw [Int.mul_neg, Int.mul_comm s]; omega, Int.add_mul_emod_self_left]
  exact hv
theorem Sem.some_jump (h : Sem f s g r n F) : jumpsOf f s n F ≠ [] := by
  intro z
  have hf : (f % s - f) % s = 0 := by
    rw [show f % s - f = s * (-(f / s)) by rw [Int.mul_neg]; have := Int.emod_add_mul_ediv f s; omega]
    exact Int.mul_emod_right _ _
  have r0 := Int.emod_nonneg f (show s ≠ 0 from by have := h.s0; omega)
  have r1 := Int.emod_lt_of_pos f h.s0
  have e := h.calm (u := f % s - s) (v := f % s - s + n) (on_sub hf) (on_add h.sd (on_sub hf)) (by have := h.n0; omega) fun w hw a b => by
    have m : w ∈ nums f s n := (mem_nums h.s0 h.sd).mpr ⟨by
      -- w > f % s - s and on the clock, so w ≥ f % s ≥ 0
      obtain ⟨k, hk⟩ := Int.dvd_of_emod_eq_zero hw
      obtain ⟨j, hj⟩ := Int.dvd_of_emod_eq_zero hf
      have e1 : w - f % s = s * (k - j) := by rw [Int.mul_sub]; omega
      rcases Int.lt_or_le (k - j) 0 with y | y
      · have : s * (k - j) ≤ s * (-1) := Int.mul_le_mul_of_nonneg_left (by omega) (by have := h.s0; omega)
        omega
      · have : 0 ≤ s * (k - j) := Int.mul_nonneg (by have := h.s0; omega) y
        omega, by omega, hw⟩
    cases q : jmp s F w with
    | false => rfl
    | true =>
      have : w ∈ jumpsOf f s n F := List.mem_filter.mpr ⟨m, q⟩
      rw [z] at this
      cases this
  have p := h.per _ (on_sub hf)
  have := h.n0
  omega
/-- the value told by the jumps -/
def byJ (n : Int) (F : Int → Int) (some : List Int) (v : Int) : Int := if (some.filter fun k => decide (k ≤ v)) ≠ [] then F ((some.filter fun k => decide (k ≤ v)).getLastD 0) else F (some.getLastD 0) - n
theorem last_max : ∀ (l : List Int), l ≠ [] → l.Pairwise (· < ·) → l.getLastD 0 ∈ l ∧ ∀ x, x ∈ l → x ≤ l.getLastD 0
  | [], h, _ => absurd rfl h
  | [a], _, _ => ⟨List.mem_singleton.mpr rfl, fun x m => by cases List.mem_singleton.mp m; exact Int.le_refl _⟩
  | a :: b :: l, _, pw => by
    have p := List.pairwise_cons.mp pw
    have q := last_max (b :: l) (by simp) p.2
    have e : (a :: b :: l).getLastD 0 = (b :: l).getLastD 0 := by simp [List.getLastD]
    rw [e]
    refine ⟨List.mem_cons_of_mem _ q.1, fun x m => ?_⟩
    rcases List.mem_cons.mp m with rfl | m
    · exact Int.le_of_lt (p.1 _ q.1)
    · exact q.2 x m
theorem Sem.by_jumps (h : Sem f s g r n F) {v : Int} (hv : v ∈ nums f s n) : byJ n F (jumpsOf f s n F) v = F v := by
  obtain ⟨v0, v1, vo⟩ := (mem_nums h.s0 h.sd).mp hv
  have pw : (jumpsOf f s n F).Pairwise (· < ·) := List.Pairwise.filter _ (nums_sorted f n h.s0)
  unfold byJ
  by_cases e : ((jumpsOf f s n F).filter fun k => decide (k ≤ v)) ≠ []
  · rw [if_pos e]
    obtain ⟨m, mx⟩ := last_max _ e (List.Pairwise.filter _ pw)
    revert m mx
    generalize ((jumpsOf f s n F).filter fun k => decide (k ≤ v)).getLastD 0 = j
    intro m mx
    obtain ⟨m1, m2⟩ := List.mem_filter.mp m
    have m3 := List.mem_filter.mp m1
    obtain ⟨j0, j1, jo⟩ := (mem_nums h.s0 h.sd).mp m3.1
    refine h.calm jo vo (of_decide_eq_true m2) fun w wo a b => ?_
    cases q : jmp s F w with
    | false => rfl
    | true =>
      have : w ∈ (jumpsOf f s n F).filter fun k => decide (k ≤ v) := List.mem_filter.mpr ⟨List.mem_filter.mpr ⟨(mem_nums h.s0 h.sd).mpr ⟨by omega, by omega, wo⟩, q⟩, decide_eq_true b⟩
      have := mx w this
      omega
  · rw [if_neg e]
    have e' : ((jumpsOf f s n F).filter fun k => decide (k ≤ v)) = [] := Classical.byContradiction e
    obtain ⟨m, mx⟩ := last_max _ h.some_jump pw
    revert m mx
    generalize (jumpsOf f s n F).getLastD 0 = j
    intro m mx
    have m3 := List.mem_filter.mp m
    obtain ⟨j0, j1, jo⟩ := (mem_nums h.s0 h.sd).mp m3.1
    have jo' : (j - n - f) % s = 0 := by
      have := on_mul (k := -1) h.sd jo
      rw [show j + -1 * n - f = j - n - f by omega] at this
      exact this
    have q := h.calm (u := j - n) (v := v) jo' vo (by omega) fun w wo a b => by
      cases q : jmp s F w with
      | false => rfl
      | true =>
        rcases Int.lt_or_le w 0 with z | z
        · have s1 := h.jmp_shift wo 1
          rw [q, show w + ((1 : Nat) : Int) * n = w + n by omega] at s1
          have := mx (w + n) (List.mem_filter.mpr ⟨(mem_nums h.s0 h.sd).mpr ⟨by omega, by omega, on_add h.sd wo⟩, s1⟩)
          omega
        · have : w ∈ (jumpsOf f s n F).filter fun k => decide (k ≤ v) := List.mem_filter.mpr ⟨List.mem_filter.mpr ⟨(mem_nums h.s0 h.sd).mpr ⟨z, by omega, wo⟩, q⟩, decide_eq_true b⟩
          rw [e'] at this
          cases this
    have p := h.per _ jo'
    rw [show j - n + n = j by omega] at p
    omega
end
end Ld
namespace L15
open PySem PySem.Spec L2 Rt Rs Ld
open PyProof.Rows hiding St

def top (i : Nat) : Stmt := PySem.Challenge.pw_roundticks_k15_leads_judged_and_asked.main.body.getD i (.Pass ⟨0, 0, 0, 0⟩)
abbrev sSource : Stmt := top 17
abbrev sPick : Stmt := top 18
abbrev sOf : Stmt := top 19
abbrev sIsInt : Stmt := top 5
abbrev sOn : Stmt := top 7
abbrev sAlike : Stmt := top 8
abbrev sLUp : Stmt := top 22
abbrev sValue : Stmt := top 25
abbrev sNumbers : Stmt := top 26
abbrev sClock : Stmt := top 21
abbrev sLAlike : Stmt := top 27
structure Wds (mg : Str → Option Value) : Prop where
  zabs : mg "abs" = none
  zint : mg "int" = none
  zmax : mg "max" = none
  zlen : mg "len" = none
  zisinstance : mg "isinstance" = none
  zbool : mg "bool" = none
  zrange : mg "range" = none
  zlist : mg "list" = none
  ztuple : mg "tuple" = none
  zsorted : mg "sorted" = none
  zrepr : mg "repr" = none
  zzip : mg "zip" = none
  zall : mg "all" = none
  zmin : mg "min" = none
  zenumerate : mg "enumerate" = none
  gs : ∃ t, mg "GREATEST_STEP" = some (.int 60 t)
theorem big5000 {n : Nat} (h : n ≤ 5000) : n < sizeLine := by
  rw [sizeLine_eq]
  omega
theorem at0 {x y : V} : atI [x, y] 0 = some x := rfl
theorem at1 {x y : V} : atI [x, y] 1 = some y := rfl
def spAlike : Sp := fun vs H Q _ => ∃ (a b : Addr) (f s g r : Int), vs = [.ref a, .ref b] ∧ H a = some (.tup [.int f, .int s]) ∧ H b = some (.tup [.int g, .int r]) ∧ (s = r → 0 < s) ∧
  Q (.bl (decide (s = r) && decide ((g - f) % s = 0))) H
/-- a law's own lead: a dict -/
structure DL (H : Hp) (a : Addr) (f s g r n : Int) (row : List Int) : Prop where
  ex : ∃ (kvs : List (Key × V)) (sa ea ra : Addr), H a = some (.dK kvs) ∧ valV kvs (Sum.inr "start") = some (.ref sa) ∧ valV kvs (Sum.inr "end") = some (.ref ea) ∧ valV kvs (Sum.inr "period") = some (.int n) ∧ valV kvs (Sum.inr "row") = some (.ref ra) ∧
    H sa = some (.tup [.int f, .int s]) ∧ H ea = some (.tup [.int g, .int r]) ∧ H ra = some (.lst (row.map V.int))
theorem DL.same {H H' : Hp} {a : Addr} {f s g r n : Int} {row : List Int} (h : DL H a f s g r n row) (k : Same H H') : DL H' a f s g r n row := by
  obtain ⟨kvs, sa, ea, ra, h0, h1, h2, h3, h4, h5, h6, h7⟩ := h.ex
  exact ⟨kvs, sa, ea, ra, k _ _ h0, h1, h2, h3, h4, k _ _ h5, k _ _ h6, k _ _ h7⟩
theorem dgetK {H : Hp} {a : Addr} {kvs : List (Key × V)} {x : Str} {v : V} (h : H a = some (.dK kvs)) (e : valV kvs (Sum.inr x) = some v) : DGet H a (.str x) (some v) := by
  have z := DGet.k (k := (Sum.inr x : Key)) h
  rw [e] at z
  exact z
def spValue : Sp := fun vs H Q _ => ∃ (a : Addr) (f s g r n v : Int) (row : List Int), vs = [.ref a, .int v] ∧ DL H a f s g r n row ∧ 0 < s ∧ s ≤ 60 ∧ 0 < n ∧ n ≤ 3600 ∧ v % n / s < row.length ∧ Q (.int (valL s n row v)) H
def spNumbers : Sp := fun vs H Q _ => ∃ (t : Addr) (f s : Int) (n : Nat), vs = [.ref t, .int n] ∧ H t = some (.tup [.int f, .int s]) ∧ 0 < s ∧ s ≤ 60 ∧ s ∣ (n : Int) ∧ n ≤ 3600 ∧ ∀ (p : Addr) (H' : Hp), H p = none → Same H H' → H' p = some (.lst ((nums f s n).map V.int)) → Q (.ref p) H'
def spClock : Sp := fun vs H Q _ => ∃ (d c p : Addr) (ss : List Int), vs = [.ref d, .ref p] ∧ Src H d c ∧ H p = some (.lst (ss.map V.int)) ∧ p ≠ c ∧ 0 < ss.length ∧ ss.length < 100 ∧
  ∀ (t : Addr) (f s : Int) (H' : Hp), H' t = some (.tup [.int f, .int s]) → s ∈ ss → f.natAbs < 10 ^ 31 → Src H' d c → Keep d c H H' → Q (.ref t) H'
def spLAlike : Sp := fun vs H Q _ => ∃ (d c t : Addr) (f s : Int), vs = [.ref d, .ref t] ∧ Src H d c ∧ H t = some (.tup [.int f, .int s]) ∧ 0 < s ∧ s ≤ 60 ∧
  ∀ (u : Addr) (g : Int) (H' : Hp), H' u = some (.tup [.int g, .int s]) → (g - f) % s = 0 → g.natAbs ≤ f.natAbs + 420 → Src H' d c → Keep d c H H' → Q (.ref u) H'
theorem far_small {z : Int} (h : z ∈ ([0, 0, 0, 10 ^ 30 - 1000, 1000 - 10 ^ 30] : List Int)) : z.natAbs ≤ 10 ^ 30 := by
  simp only [List.mem_cons, List.not_mem_nil, or_false] at h
  rcases h with e | e | e | e | e <;> subst e <;> decide +kernel
theorem few_small {z : Int} (h : z ∈ ([0, 0, 1, -3, 7] : List Int)) : -3 ≤ z ∧ z ≤ 7 := by
  simp only [List.mem_cons, List.not_mem_nil, or_false] at h
  rcases h with e | e | e | e | e <;> subst e <;> decide
section
variable {P : Program} {w : World} {K : PySem.W.Frag} {mg : Str → Option Value} {base : Heap} {f C : Addr} {fd : FuncData}

theorem scPick : FnScope ["source", "many", "left", "mixed"] ["source", "many"] (defScope sPick) := ⟨rfl, rfl, rfl, by decide +kernel, rfl, by decide +kernel, by decide +kernel⟩
theorem ok_pick {f : Addr} {fd : FuncData} (F : Fun K "_law_pick" "_law_pick" sPick f fd) (mL : mg "len" = none) (mM : mg "max" = none) (mI : mg "int" = none) : FnG P w K mg base 1 f fd ["source", "many"] spPick := by
  refine okG F scPick (fun vs H Q E h => ?_) (fun cdv A outer s H vs Q E hg hr h => ?_)
  · obtain ⟨d, c, n, rfl, _⟩ := h
    rfl
  · obtain ⟨d, c, n, rfl, S, hn, k⟩ := h
    have hu := hu_of hr
    refine ⟨_, pss_cons (ps_while PassesOwn.never
        (PW.pt (pw_and (pt_cmpR op_gt (pv 1) pe_int (nomark _)) (pw_and (pt_cmpR op_lt (pe_dget hu (pv 0) pe_str (fun _ _ => rfl)) pe_int (nomark _))
          (pw_and1 (pt_cmpR op_gt (pe_callB call_len_seq (by rfl) mL PySem.boot_len (pa_cons (pe_dget hu (pv 0) pe_str (fun _ _ => rfl)) pa_nil)) pe_int (nomark _))))))
        (pss_one (ps_dput hu (pv 0) pe_str (pe_bm0 PySem.F.plainAttrs_list PySem.F.slot_list_pop PySem.F.type_list_pop mt_pop (pe_dget hu (pv 0) pe_str (fun _ _ => rfl))) rfl)))
      (pss_cons (ps_set (i := 2) scPick.nd rfl (.inl rfl) (pe_dget hu (pv 0) pe_str (fun _ _ => rfl)))
      (pss_cons (ps_if (PW.pt (pw_or (pt_cmpR op_lt (pv 1) pe_int (nomark _)) (pw_or1 (pt_cmpR op_gt (pv 2) pe_int (nomark _)))))
        (pss_cons (ps_dput hu (pv 0) pe_str (pe_op op_fdivW (pv 2) (pe_callB (call_max2 rfl) (by rfl) mM (by decide +kernel) (pa_cons pe_int (pa_cons (pv 1) pa_nil)))) rfl)
          (pss_one (ps_ret (pe_op op_mod (pe_callTy call_int1 (by rfl) mI (by decide +kernel) (pa_cons (pv 2) pa_nil)) (pe_callB (call_max2 rfl) (by rfl) mM (by decide +kernel) (pa_cons pe_int (pa_cons (pv 1) pa_nil)))))))
        pss_nil)
      (pss_cons (ps_dput hu (pv 0) pe_str (pe_op op_add (pe_dget hu (pv 0) pe_str (fun _ _ => rfl)) pe_int) rfl)
      (pss_cons (ps_set (i := 3) scPick.nd rfl (.inl rfl) (pe_op op_mod (pe_callTy call_int1 (by rfl) mI (by decide +kernel) (pa_cons (pe_op op_add (pe_dget hu (pv 0) pe_str (fun _ _ => rfl)) (pe_op op_mul (pe_dget hu (pv 0) pe_str (fun _ _ => rfl)) pe_int)) pa_nil)) pe_int))
      (pss_cons (ps_set (i := 3) scPick.nd rfl (.inl rfl) (pe_op op_mod (pe_callTy call_int1 (by rfl) mI (by decide +kernel) (pa_cons (pe_op op_add (pe_op op_mul (pv 3) (pv 3)) (pe_op op_mul (pe_dget hu (pv 0) pe_str (fun _ _ => rfl)) pe_int)) pa_nil)) pe_int))
      (pss_cons (ps_dput hu (pv 0) pe_str (pv 3) rfl)
      (pss_one (ps_ret (pe_op op_mod (pe_callTy call_int1 (by rfl) mI (by decide +kernel) (pa_cons (pe_op op_fdiv (pv 3) pe_int) pa_nil)) (pv 1)))))))))), ?_⟩
    obtain ⟨ks0, l0, m0, t0, e1, e2⟩ := S.ex
    have dc : d ≠ c := ne_of e1 e2 (by intro z; cases z)
    -- while many > 1 and source['left'] < 2 and len(source['cells']) > 0
    refine ⟨fun m σ H1 => ∃ (ks : List Int) (l mx t : Int), m = ks.length ∧ σ = [some (.ref d), some (.int n), none, none] ∧ Keep d c H H1 ∧ H1 d = some (.dK (srcK c l mx t)) ∧ H1 c = some (.lst (ks.map V.int)),
      ⟨_, ks0, l0, m0, t0, rfl, rfl, Keep.refl, e1, e2⟩, ?_⟩
    rintro m σ H1 ⟨ks, l, mx, t, rfl, rfl, kp, hd, hc⟩
    refine ⟨_, rfl, _, _, rfl, rfl, _, rfl, ?_⟩
    by_cases g : 1 < n ∧ l < 2 ∧ 0 < ks.length
    · obtain ⟨g1, g2, g3⟩ := g
      rw [decide_eq_true g1]
      refine iteT ?_
      refine ⟨_, rfl, d, _, rfl, get_left hd, _, _, rfl, rfl, _, rfl, ?_⟩
      rw [decide_eq_true g2]
      refine iteT ?_
      refine ⟨_, rfl, d, _, rfl, get_cells hd, c, _, rfl, .inl (.inl (.inl hc)), _, _, rfl, rfl, _, rfl, ?_⟩
      rw [decide_eq_true (show (0 : Int) < ((ks.map V.int).length : Int) by rw [List.length_map]; omega)]
      refine iteT ?_
      obtain ⟨z, hz⟩ : ∃ z, ks[ks.length - 1]? = some z := ⟨ks[ks.length - 1], List.getElem?_eq_getElem (by omega)⟩
      refine ⟨fun σ2 H2 => σ2 = [some (.ref d), some (.int n), none, none] ∧ Keep d c H H2 ∧ H2 d = some (.dK (srcK c z mx t)) ∧ H2 c = some (.lst (ks.dropLast.map V.int)), ?_, ?_⟩
      · rintro σ2 H2 ⟨rfl, k2, d2, c2⟩
        refine ⟨ks.dropLast.length, ?_, ks.dropLast, z, mx, t, rfl, rfl, k2, d2, c2⟩
        rw [List.length_dropLast]
        omega
      · -- source['left'] = source['cells'].pop()
        have cd : d ≠ c := dc
        have hd2 : (upd H1 c (.lst (ks.map V.int).dropLast)) d = some (.dK (srcK c l mx t)) := by rw [upd_ne cd]; exact hd
        refine ⟨_, rfl, d, _, rfl, get_cells hd, .inl ⟨rfl, _, .inl (.inl hc)⟩, c, _, .int z, rfl, rfl, hc, ?_, _, rfl, d, _, rfl, st_left hd2 z, ?_⟩
        · rw [List.length_map, List.getElem?_map, hz]
          rfl
        · refine ⟨rfl, (kp.c).d, upd_same, ?_⟩
          rw [upd_ne cd.symm, upd_same, List.map_dropLast]
    · have nolen : 1 < n → l < 2 → ¬ (0 : Int) < ((ks.map V.int).length : Int) := fun g1 g2 g3 => g ⟨g1, g2, by rw [List.length_map] at g3; omega⟩
      refine (fun (fin : (?T : Prop)) => ?main) ?after
      case main =>
        by_cases g1 : 1 < n
        · rw [decide_eq_true g1]
          refine iteT ?_
          refine ⟨_, rfl, d, _, rfl, get_left hd, _, _, rfl, rfl, _, rfl, ?_⟩
          by_cases g2 : l < 2
          · rw [decide_eq_true g2]
            refine iteT ?_
            refine ⟨_, rfl, d, _, rfl, get_cells hd, c, _, rfl, .inl (.inl (.inl hc)), _, _, rfl, rfl, _, rfl, ?_⟩
            rw [decide_eq_false (nolen g1 g2)]
            refine iteF ?_
            exact fin
          · rw [decide_eq_false g2]
            exact iteF (iteF fin)
        · rw [decide_eq_false g1]
          exact iteF (iteF fin)
      case after =>
        -- left = source['left']
        refine ⟨_, rfl, d, _, rfl, get_left hd, ?_⟩
        have mx1 : ∀ n : Int, 0 < (if n > 1 then n else (1 : Int)) := fun n => by split <;> omega
        have mx2 : n < 1000000000 → (if n > 1 then n else (1 : Int)).natAbs < 2 ^ 60 := fun z => by split <;> omega
        -- if many < 2 or left > 1
        refine ⟨_, rfl, _, _, rfl, rfl, _, rfl, ?_⟩
        by_cases g : n < 2 ∨ 1 < l
        · by_cases g1 : n < 2
          all_goals first
            | (rw [decide_eq_true (show n < 2 by assumption)]
               refine iteT (iteT ?_))
            | (rw [decide_eq_false (show ¬ n < 2 by assumption)]
               refine iteF ?_
               refine ⟨_, rfl, _, _, rfl, rfl, _, rfl, ?_⟩
               rw [decide_eq_true (g.resolve_left g1)]
               refine iteT ?_)
          all_goals
            -- source['left'] = left // max(1, many); return int(left) % max(1, many)
            refine ⟨_, rfl, _, rfl, _, _, rfl, _, _, rfl, rfl, wide_div (mx1 n) (mx2 hn) (by decide) (by decide), _, rfl, d, _, rfl, st_left hd _, ?_⟩
            refine ⟨_, rfl, .inl ⟨_, rfl, _, rfl, _, _, rfl, _, _, rfl, rfl, mx1 n, ?_⟩⟩
            refine k _ _ (Int.emod_nonneg _ (Int.ne_of_gt (mx1 n))) ?_ ⟨ks, _, mx, t, upd_same, ?_⟩ kp.d
            · have z := Int.emod_lt_of_pos l (mx1 n)
              have z0 := Int.emod_nonneg l (Int.ne_of_gt (mx1 n))
              by_cases y : n > 1
              · rw [if_pos y] at z z0 ⊢
                exact .inl z
              · rw [if_neg y] at z z0 ⊢
                right
                omega
            · rw [upd_ne dc.symm]
              exact hc
        · rw [decide_eq_false (fun z => g (.inl z))]
          refine iteF ?_
          refine ⟨_, rfl, _, _, rfl, rfl, _, rfl, ?_⟩
          rw [decide_eq_false (fun z => g (.inr z))]
          refine iteF ?_
          have g1 : ¬ n < 2 := fun z => g (.inl z)
          -- source['turn'] = source['turn'] + 1
          refine ⟨_, rfl, d, _, rfl, get_turn hd, _, _, rfl, rfl, _, rfl, d, _, rfl, st_turn hd (t + 1), ?_⟩
          have hd2 : (upd H1 d (.dK (srcK c l mx (t + 1)))) d = some (.dK (srcK c l mx (t + 1))) := upd_same
          -- mixed = int(source['mixed'] + source['turn'] * 104729) % 998244353
          refine ⟨_, rfl, d, _, rfl, get_mixed hd2, _, rfl, d, _, rfl, get_turn hd2, _, _, rfl, rfl, .inr ⟨by decide, by decide⟩, _, _, rfl, rfl, .inl ⟨_, rfl, _, _, rfl, rfl, (by show (0 : Int) < 998244353; decide), ?_⟩⟩
          have b1 : 0 ≤ (mx + (t + 1) * 104729) % 998244353 := Int.emod_nonneg _ (by decide)
          have b2 : (mx + (t + 1) * 104729) % 998244353 < 998244353 := Int.emod_lt_of_pos _ (by decide)
          generalize (mx + (t + 1) * 104729) % 998244353 = y at b1 b2 ⊢
          -- mixed = int(mixed * mixed + source['turn'] * 17) % 2147483647
          refine ⟨_, rfl, _, rfl, _, _, rfl, rfl, .inl ⟨by omega, by omega⟩, _, rfl, d, _, rfl, get_turn hd2, _, _, rfl, rfl, .inr ⟨by decide, by decide⟩, _, _, rfl, rfl, .inl ⟨_, rfl, _, _, rfl, rfl, (by show (0 : Int) < 2147483647; decide), ?_⟩⟩
          -- source['mixed'] = mixed; return int(mixed // 16) % many
          refine ⟨_, rfl, _, rfl, d, _, rfl, st_mixed hd2 _, ?_⟩
          refine ⟨_, rfl, _, _, rfl, rfl, ⟨by decide, by decide⟩, .inl ⟨_, rfl, _, rfl, _, _, rfl, rfl, (by show (0 : Int) < n; omega), ?_⟩⟩
          refine k _ _ (Int.emod_nonneg _ (by omega)) (.inl (Int.emod_lt_of_pos _ (by omega))) ⟨ks, l, _, t + 1, upd_same, ?_⟩ (kp.d).d
          rw [upd_ne dc.symm, upd_ne dc.symm]
          exact hc
theorem scOf : FnScope ["source", "some"] ["source", "some"] (defScope sOf) := ⟨rfl, rfl, rfl, by decide +kernel, rfl, by decide +kernel, by decide +kernel⟩
theorem ok_of {f : Addr} {fd : FuncData} (F : Fun K "_law_of" "_law_of" sOf f fd) (mL : mg "len" = none) (CP : Cb P w K mg base 1 "_law_pick" spPick) : FnG P w K mg base 2 f fd ["source", "some"] spOf := by
  refine okG F scOf (fun vs H Q E h => ?_) (fun cdv A outer s H vs Q E hg hr h => ?_)
  · obtain ⟨d, c, p, xs, rfl, _⟩ := h
    rfl
  · obtain ⟨d, c, p, xs, rfl, S, hp, pc, h0, hl, k⟩ := h
    refine ⟨_, pss_one (ps_ret (pe_ix ix_list (pv 1) (pe_k CP hg hr (by decide) (by rfl) (pa_cons (pv 0) (pa_cons (pe_callB call_len_seq (by rfl) mL PySem.boot_len (pa_cons (pv 1) pa_nil)) pa_nil))) (fun _ _ => rfl))), ?_⟩
    refine ⟨_, rfl, _, rfl, _, rfl, p, _, rfl, .inl (.inl (.inl hp)), d, c, _, rfl, S, (by omega), ?_⟩
    intro r H1 r0 r1 S1 kp
    have rn : r < xs.length := by omega
    obtain ⟨j, ej⟩ : ∃ j : Nat, r = (j : Int) := ⟨r.toNat, by omega⟩
    have hj : j < xs.length := by omega
    have pd : p ≠ d := by
      obtain ⟨ks, l, m, t, q1, q2⟩ := S.ex
      exact ne_of hp q1 (by intro z; cases z)
    refine ⟨p, xs, r, xs[j], rfl, rfl, .inl (.inl (kp p _ hp pd pc)), at_of (j := j) ej (List.getElem?_eq_getElem hj), ?_⟩
    exact k j xs[j] H1 (List.getElem?_eq_getElem hj) S1 kp
theorem scSource : FnScope ["script", "mixed", "cell"] ["script"] (defScope sSource) := ⟨rfl, rfl, rfl, by decide +kernel, rfl, by decide +kernel, by decide +kernel⟩
theorem ok_source {f : Addr} {fd : FuncData} (F : Fun K "_law_source" "_law_source" sSource f fd) (mA : mg "abs" = none) (mI : mg "int" = none) : FnG P w K mg base 1 f fd ["script"] (spSource K) := by
  refine okG F scSource (fun vs H Q E h => ?_) (fun cdv A outer s H vs Q E hg hr h => ?_)
  · obtain ⟨a, ns, rfl, _⟩ := h
    rfl
  · obtain ⟨a, ns, rfl, hS, hl, k⟩ := h
    refine ⟨_, pss_cons (ps_set (i := 1) scSource.nd rfl (.inl rfl) pe_int)
      (pss_cons (ps_for PassesOwn.never rfl (pi_list (pv 0)) (pg_name (i := 2) scSource.nd rfl (.inl rfl))
        (pss_one (ps_set (i := 1) scSource.nd rfl (.inl rfl) (pe_op op_mod (pe_callTy call_int1 (by rfl) mI (by decide +kernel)
          (pa_cons (pe_op op_add (pe_op op_add (pe_op op_mul (pv 1) pe_int) (pe_op op_mul (pv 2) pe_int)) pe_int) pa_nil)) pe_int))))
      (pss_one (ps_ret (pe_disp (pps_cons pe_str (pe_revL (pe_lc (own := [("cell", 2)]) (g := gName 2) (tt := tYes) rfl scSource.nd (pi_list (pv 0))
          (blkOk_by (N := ["script", "mixed", "cell"]) (sc := defScope sSource) (by decide +kernel)) (fun _ _ _ _ _ => pg_name (i := 2) scSource.nd rfl (Or.inl rfl)) (fun _ _ _ _ _ => pts_nil)
          (fun _ _ _ _ _ => pe_callB call_abs (by rfl) mA (by decide +kernel) (pa_cons (pv 2) pa_nil))))
        (pps_cons pe_str pe_int (pps_cons pe_str (pv 1) (pps_cons pe_str pe_int pps_nil)))) (by rfl) (by rfl) (fun z => by cases z) (by decide))))), ?_⟩
    refine ⟨_, rfl, a, rfl, ⟨_, hS⟩, for_list (K := K) (a := a) (xs := ns.map V.int) (fun i σ H2 => ∃ (m : Int) (v : Option V), σ = [some (.ref a), some (.int m), v] ∧ H2 = H)
      ⟨11, none, rfl, rfl⟩ (fun i σ H2 _ ⟨_, _, _, e⟩ => by rw [e]; exact hS) ?_ ?_⟩
    · rintro i y σ H2 hi ⟨m, v, rfl, rfl⟩
      obtain ⟨z, hz, rfl⟩ := int_at hi
      refine ⟨_, rfl, _, _, rfl, rfl, .inr ⟨by decide, by decide⟩, _, rfl, _, _, rfl, rfl, .inr ⟨by decide, by decide⟩, _, _, rfl, rfl, _, _, rfl, rfl, .inl ⟨_, rfl, _, _, rfl, rfl, (by show (0 : Int) < 2147483629; decide), ?_⟩⟩
      exact ⟨_, _, rfl, rfl⟩
    · rintro σ H2 ⟨m, v, rfl, rfl⟩
      intro p np
      have s1 := same_new (o := .dK []) np
      refine ⟨_, rfl, a, rfl, ⟨_, s1.seq hS⟩, fun D nD => ?_⟩
      have s2 := s1.trans (same_new (o := .lst []) nD)
      have npD : p ≠ D := ne_of_none upd_same nD
      refine lc_list (K := K) (a := a) (xs := ns.map V.int) (fun i H3 => Same H2 H3 ∧ H3 p = some (.dK []) ∧ ∃ ks : List Int, ks.length = i ∧ H3 D = some (.lst (ks.map V.int)))
        ⟨s2, by rw [upd_ne npD]; exact upd_same, [], rfl, upd_same⟩ (fun i H3 _ ⟨s3, _⟩ => s3.seq hS) ?_ ?_
      · rintro i y H3 hi ⟨s3, hp, ks, rfl, hD⟩
        obtain ⟨z, hz, rfl⟩ := int_at hi
        have il : ks.length < ns.length := (List.getElem?_eq_some_iff.mp hz).1
        refine ⟨rfl, _, rfl, _, rfl, _, hD, ?_, ?_⟩
        · rw [List.length_map]
          exact small1000 (by omega)
        · have nD2 : H2 D = none := s1.free nD
          refine ⟨fun b o e => by rw [upd_ne (ne_of_none e nD2)]; exact s3 b o e, by rw [upd_ne npD]; exact hp, ks ++ [if z < 0 then -z else z], by simp, ?_⟩
          rw [upd_same, List.map_append]
          rfl
      · rintro H3 ⟨s3, hp, ks, ek, hD⟩
        refine ⟨D, _, rfl, .inl (.inl hD), fun c nc => ?_⟩
        refine ⟨_, rfl, ?_, srcK c 1 m 0, rfl, (by show 4 ≤ 15; decide), ?_⟩
        · rw [upd_ne (ne_of_none hp nc)]
          exact hp
        · rw [merge_src]
          have pc : p ≠ c := ne_of_none hp nc
          refine k p c _ np (s3.free nc) ⟨ks.reverse, 1, m, 0, upd_same, ?_⟩ fun b o e => ?_
          · rw [upd_ne pc.symm, upd_same, List.map_reverse]
          · have z := s3 b o e
            rw [upd_ne (ne_of_none e np), upd_ne (ne_of_none z nc)]
            exact z
theorem scIsInt : FnScope ["value"] ["value"] (defScope sIsInt) := ⟨rfl, rfl, rfl, by decide +kernel, rfl, by decide +kernel, by decide +kernel⟩
theorem ok_isInt2 {f : Addr} {fd : FuncData} (F : Fun K "is_integer" "is_integer" sIsInt f fd) (T : Wds mg) : FnOk P w K mg base CX0 1 f fd ["value"] spIsInt := by
  refine F.ok scIsInt (fun vs H Q E h => ?_) (fun cdv A outer s H vs Q E hr h => ?_)
  · obtain ⟨v, rfl, _⟩ := h
    rfl
  · obtain ⟨v, rfl, ho, k⟩ := h
    obtain ⟨T1, b1, b2, ty, k1, k2, e⟩ := od_type (K := K) ho
    refine ⟨_, (pss_one (ps_ret (pe_and (pe_callB call_isi (by rfl) T.zisinstance (by decide +kernel) (pa_cons (pv 0) (pa_cons (pe_bltn (v := .ty "int") (by rfl) T.zint (by decide +kernel) rfl) pa_nil))) (pe_one (pe_not (pe_callB call_isi (by rfl) T.zisinstance (by decide +kernel) (pa_cons (pv 0) (pa_cons (pe_bltn (v := .ty "bool") (by rfl) T.zbool (by decide +kernel) rfl) pa_nil)))))))), ?_⟩
    refine ⟨_, rfl, v, .ty "int", _, .type "int", b1, rfl, .ty _, ty, kit_ty k1, b1, rfl, ?_⟩
    cases b1 with
    | true =>
      refine iteT ?_
      refine ⟨_, rfl, v, .ty "bool", _, .type "bool", b2, rfl, .ty _, ty, kit_ty k2, b2, rfl, ?_⟩
      rw [show (!b2) = isI v from by simpa using e]
      exact k
    | false =>
      refine iteF ?_
      rw [show false = isI v from by simpa using e]
      exact k
theorem scOn : FnScope ["clock", "value", "first", "step"] ["clock", "value"] (defScope sOn) := ⟨rfl, rfl, rfl, by decide +kernel, rfl, by decide +kernel, by decide +kernel⟩
theorem ok_on {f : Addr} {fd : FuncData} (F : Fun K "is_on" "is_on" sOn f fd) (isInt : Cf P w K mg base 1 "is_integer" spIsInt) : FnOk P w K mg base CX0 2 f fd ["clock", "value"] spOn := by
  refine F.ok scOn (fun vs H Q E h => ?_) (fun cdv A outer s H vs Q E hr h => ?_)
  · obtain ⟨t, f, s, v, rfl, _⟩ := h
    rfl
  · obtain ⟨t, f, s, v, rfl, ht, hs, ho, k⟩ := h
    refine ⟨_, (pss_cons (ps_asg (pv 0) (pg_tup (by rfl) (pgs_cons (pg_name (i := 2) scOn.nd rfl (.inl rfl)) (pgs_cons (pg_name (i := 3) scOn.nd rfl (.inl rfl)) pgs_nil))))
      (pss_one (ps_ret (pe_and (pe_f isInt hr (by decide) (by rfl) (pa_cons (pv 1) pa_nil)) (pe_one (pe_cmpR op_eq (pe_op op_mod (pe_op op_sub (pv 1) (pv 2)) (pv 3)) pe_int (nomark _))))))), ?_⟩
    refine ⟨_, rfl, t, _, rfl, SqT.of ht, rfl, _, _, rfl, _, _, rfl, rfl, ?_⟩
    refine ⟨_, rfl, v, rfl, ho, _, rfl, ?_⟩
    cases v with
    | int i =>
      refine iteT ?_
      refine ⟨_, rfl, _, rfl, _, _, rfl, rfl, _, rfl, _, _, rfl, rfl, hs, rfl, ?_⟩
      rw [dec_V]
      exact k
    | _ => exact iteF k
theorem scLUp : FnScope ["clock", "x", "laps"] ["clock", "x"] (defScope sLUp) := ⟨rfl, rfl, rfl, by decide +kernel, rfl, by decide +kernel, by decide +kernel⟩
theorem ok_lup (F : Fun K "_law_up" "_law_up" sLUp f fd) (T : Wds mg) : FnG P w K mg base 1 f fd ["clock", "x"] spLUp := by
  refine okG F scLUp (fun vs H Q E h => ?_) (fun cdv A outer s H vs Q E hg hr h => ?_)
  · obtain ⟨t, f, s, x, rfl, _⟩ := h
    rfl
  · obtain ⟨t, f, s, x, rfl, ht, hs, hs2, k⟩ := h
    refine ⟨_, (pss_cons (ps_set (i := 2) scLUp.nd rfl (.inl rfl) (pe_op op_fdiv (pe_callTy call_int1 (by rfl) T.zint (by decide +kernel) (pa_cons (pe_op op_sub (pe_op op_add (pe_op op_sub (pv 1) (pe_ix ix_tup (pv 0) pe_int (fun _ _ => rfl))) (pe_ix ix_tup (pv 0) pe_int (fun _ _ => rfl))) pe_int) pa_nil)) (pe_ix ix_tup (pv 0) pe_int (fun _ _ => rfl))))
      (pss_one (ps_ret (pe_op op_add (pe_ix ix_tup (pv 0) pe_int (fun _ _ => rfl)) (pe_op op_mul (pv 2) (pe_ix ix_tup (pv 0) pe_int (fun _ _ => rfl))))))), ?_⟩
    have a0 : atI [V.int f, V.int s] 0 = some (V.int f) := rfl
    have a1 : atI [V.int f, V.int s] 1 = some (V.int s) := rfl
    refine ⟨_, rfl, _, rfl, t, _, _, _, rfl, rfl, SqT.of ht, a0, _, _, rfl, rfl, _, rfl, t, _, _, _, rfl, rfl, SqT.of ht, a1, _, _, rfl, rfl, _, _, rfl, rfl, .inl ⟨_, rfl, _, rfl, t, _, _, _, rfl, rfl, SqT.of ht, a1, _, _, rfl, rfl, (by first | omega | exact ⟨by omega, by omega⟩), ?_⟩⟩
    exact ⟨_, rfl, t, _, _, _, rfl, rfl, SqT.of ht, a0, _, rfl, _, rfl, t, _, _, _, rfl, rfl, SqT.of ht, a1, _, _, rfl, rfl, .inr ⟨by omega, by omega⟩, _, _, rfl, rfl, k⟩
theorem scAlike : FnScope ["one", "other"] ["one", "other"] (defScope sAlike) := ⟨rfl, rfl, rfl, by decide +kernel, rfl, by decide +kernel, by decide +kernel⟩
theorem ok_alike (F : Fun K "are_alike_clocks" "are_alike_clocks" sAlike f fd) (isOn : Cf P w K mg base 2 "is_on" spOn) : FnOk P w K mg base CX0 3 f fd ["one", "other"] spAlike := by
  refine F.ok scAlike (fun vs H Q E h => ?_) (fun cdv A outer s H vs Q E hr h => ?_)
  · obtain ⟨a, b, f, s, g, r, rfl, _⟩ := h
    rfl
  · obtain ⟨a, b, f, s, g, r, rfl, ha, hb, hs, k⟩ := h
    refine ⟨_, (pss_one (ps_ret (pe_and (pe_cmpR op_eq (pe_ix ix_tup (pv 0) pe_int (fun _ _ => rfl)) (pe_ix ix_tup (pv 1) pe_int (fun _ _ => rfl)) (nomark _)) (pe_one (pe_f isOn hr (by decide) (by rfl) (pa_cons (pv 0) (pa_cons (pe_ix ix_tup (pv 1) pe_int (fun _ _ => rfl)) pa_nil))))))), ?_⟩
    refine ⟨_, rfl, a, _, _, _, rfl, rfl, SqT.of ha, at1, _, rfl, b, _, _, _, rfl, rfl, SqT.of hb, at1, rfl, _, rfl, ?_⟩
    rw [dec_V]
    by_cases e : s = r
    · rw [decide_eq_true e] at k ⊢
      refine iteT ?_
      exact ⟨_, rfl, _, rfl, b, _, _, _, rfl, rfl, SqT.of hb, at0, a, f, s, _, rfl, ha, hs e, True.intro, k⟩
    · rw [decide_eq_false e] at k ⊢
      exact iteF k
theorem scValue : FnScope ["lead", "v", "laps", "at"] ["lead", "v"] (defScope sValue) := ⟨rfl, rfl, rfl, by decide +kernel, rfl, by decide +kernel, by decide +kernel⟩
theorem ok_value (F : Fun K "_law_value" "_law_value" sValue f fd) (T : Wds mg) : FnG P w K mg base 1 f fd ["lead", "v"] spValue := by
  refine okG F scValue (fun vs H Q E h => ?_) (fun cdv A outer s H vs Q E hg hr h => ?_)
  · obtain ⟨a, f, s, g, r, n, v, row, rfl, _⟩ := h
    rfl
  · obtain ⟨a, f, s, g, r, n, v, row, rfl, dl, s0, s1, n0, n1, hi, k⟩ := h
    have hu := hu_of hr
    have hu64 := hr.units
    refine ⟨_, (pss_cons (ps_set (i := 2) scValue.nd rfl (.inl rfl) (pe_op op_fdiv (pe_callTy call_int1 (by rfl) T.zint (by decide +kernel) (pa_cons (pv 1) pa_nil)) (pe_dget hu (pv 0) pe_str (fun _ _ => rfl))))
      (pss_cons (ps_set (i := 3) scValue.nd rfl (.inl rfl) (pe_op op_fdiv (pe_callTy call_int1 (by rfl) T.zint (by decide +kernel) (pa_cons (pe_op op_sub (pv 1) (pe_op op_mul (pv 2) (pe_dget hu (pv 0) pe_str (fun _ _ => rfl)))) pa_nil)) (pe_ix ix_tup (pe_dget hu (pv 0) pe_str (fun _ _ => rfl)) pe_int (fun _ _ => rfl))))
      (pss_one (ps_ret (pe_op op_add (pe_ix ix_list (pe_dget hu (pv 0) pe_str (fun _ _ => rfl)) (pv 3) (fun _ _ => rfl)) (pe_op op_mul (pv 2) (pe_dget hu (pv 0) pe_str (fun _ _ => rfl)))))))), ?_⟩
    obtain ⟨kvs, sa, ea, ra, h0, h1, h2, h3, h4, h5, h6, h7⟩ := dl.ex
    have em := Int.emod_add_mul_ediv v n
    have m0 := Int.emod_nonneg v (show n ≠ 0 by omega)
    have e1 : v - v / n * n = v % n := by rw [Int.mul_comm]; omega
    have d0 : 0 ≤ v % n / s := Int.ediv_nonneg m0 (by omega)
    refine ⟨_, rfl, .inl ⟨_, rfl, _, rfl, a, _, rfl, dgetK h0 h3, _, _, rfl, rfl, ⟨n0, by omega⟩, ?_⟩⟩
    refine ⟨_, rfl, _, rfl, _, rfl, a, _, rfl, dgetK h0 h3, _, _, rfl, rfl, .inr ⟨by omega, by omega⟩, _, _, rfl, rfl, .inl ⟨_, rfl, _, rfl, a, _, rfl, dgetK h0 h1, sa, _, _, _, rfl, rfl, SqT.of h5, at1, _, _, rfl, rfl, ⟨s0, by omega⟩, ?_⟩⟩
    rw [e1]
    obtain ⟨i, ei⟩ := Int.eq_ofNat_of_zero_le d0
    have hil : i < row.length := by omega
    refine ⟨_, rfl, a, _, rfl, dgetK h0 h4, _, rfl, ra, _, _, _, rfl, rfl, SqL.of h7, at_of (j := i) ei (by rw [List.getElem?_map, List.getElem?_eq_getElem hil]; rfl), ?_⟩
    refine ⟨_, rfl, _, rfl, a, _, rfl, dgetK h0 h3, _, _, rfl, rfl, .inr ⟨by omega, by omega⟩, _, _, rfl, rfl, ?_⟩
    have ev : valL s n row v = row[i] + v / n * n := by
      unfold valL
      rw [ei, Int.toNat_natCast, List.getD_eq_getElem?_getD, List.getElem?_eq_getElem hil]
      show row[i] + (v - v % n) = _
      omega
    rw [ev] at k
    exact k
theorem scNumbers : FnScope ["clock", "period", "v"] ["clock", "period"] (defScope sNumbers) := ⟨rfl, rfl, rfl, by decide +kernel, rfl, by decide +kernel, by decide +kernel⟩
theorem ok_numbers (F : Fun K "_law_numbers" "_law_numbers" sNumbers f fd) (T : Wds mg) : FnG P w K mg base 1 f fd ["clock", "period"] spNumbers := by
  refine okG F scNumbers (fun vs H Q E h => ?_) (fun cdv A outer s H vs Q E hg hr h => ?_)
  · obtain ⟨t, f, s, n, rfl, _⟩ := h
    rfl
  · obtain ⟨t, f, s, n, rfl, ht, s0, s1, sd, n1, k⟩ := h
    have hu := hu_of hr
    have hu64 := hr.units
    refine ⟨_, (pss_one (ps_ret (pe_lc (own := [("v", 2)]) (by rfl) scNumbers.nd (pi_range1 (by rfl) T.zrange (pa_cons (pv 1) pa_nil)) (blkOk_by (N := ["clock", "period", "v"]) (sc := defScope sNumbers) (by decide +kernel)) (fun _ _ _ _ _ => (pg_name (i := 2) scNumbers.nd rfl (.inl rfl))) (fun _ _ _ _ _ => (pts_one (pt_cmpR op_eq (pe_op op_mod (pe_callTy call_int1 (by rfl) T.zint (by decide +kernel) (pa_cons (pe_op op_sub (pv 2) (pe_ix (ix_tup : IxR _ (rIxT K)) (pv 0) pe_int (fun _ _ => rfl))) pa_nil)) (pe_ix (ix_tup : IxR _ (rIxT K)) (pv 0) pe_int (fun _ _ => rfl))) pe_int (nomark _)))) (fun _ _ _ _ _ => (pv 2))))), ?_⟩
    refine ⟨_, rfl, (n : Int), rfl, by omega, by omega, fun D nD => ?_⟩
    rw [Int.toNat_natCast]
    refine lc_range (lo := 0) (fun i H1 => Same H H1 ∧ H1 D = some (.lst ((((List.range i).map fun i => ((i : Nat) : Int)).filter fun v => decide ((v - f) % s = 0)).map V.int))) ⟨same_new nD, upd_same⟩ ?_ ?_
    · rintro i H1 hi ⟨s1, hD⟩
      have ht1 := s1 _ _ ht
      have e0 : (0 : Int) + (i : Nat) = (i : Nat) := by omega
      rw [e0]
      refine ⟨rfl, _, rfl, _, rfl, t, _, _, _, rfl, rfl, SqT.of ht1, at0, _, _, rfl, rfl, .inl ⟨_, rfl, _, rfl, t, _, _, _, rfl, rfl, SqT.of ht1, at1, _, _, rfl, rfl, s0, ?_⟩⟩
      refine ⟨rfl, _, rfl, ?_⟩
      rw [dec_V]
      have step : ((List.range (i + 1)).map fun i => ((i : Nat) : Int)) = ((List.range i).map fun i => ((i : Nat) : Int)) ++ [(i : Int)] := by
        rw [List.range_succ, List.map_append]
        rfl
      by_cases e : ((i : Int) - f) % s = 0
      · rw [decide_eq_true e]
        refine iteT ?_
        refine ⟨_, rfl, _, hD, big5000 ?_, fun b o z => by rw [upd_ne (ne_of_none z nD)]; exact s1 b o z, ?_⟩
        · rw [List.length_map]
          refine Nat.le_trans (List.length_filter_le _ _) ?_
          rw [List.length_map, List.length_range]
          omega
        · rw [upd_same, step, List.filter_append, List.map_append]
          simp only [List.filter_cons, decide_eq_true e, if_true, List.filter_nil]
          rfl
      · rw [decide_eq_false e]
        refine iteF ?_
        refine ⟨s1, ?_⟩
        rw [step, List.filter_append]
        simp only [List.filter_cons, decide_eq_false e, List.filter_nil, List.append_nil, Bool.false_eq_true, if_false]
        exact hD
    · rintro H1 ⟨s1, hD⟩
      rw [nums_filter s0 sd] at hD
      exact k D H1 nD s1 hD
theorem scClock : FnScope ["source", "steps", "first"] ["source", "steps"] (defScope sClock) := ⟨rfl, rfl, rfl, by decide +kernel, rfl, by decide +kernel, by decide +kernel⟩
theorem ok_clock {f : Addr} {fd : FuncData} (F : Fun K "_law_clock" "_law_clock" sClock f fd) (CP : Cb P w K mg base 1 "_law_pick" spPick) (CO : Cb P w K mg base 2 "_law_of" spOf) : FnG P w K mg base 3 f fd ["source", "steps"] spClock := by
  refine okG F scClock (fun vs H Q E h => ?_) (fun cdv A outer s H vs Q E hg hr h => ?_)
  · obtain ⟨d, c, p, ss, rfl, _⟩ := h
    rfl
  · obtain ⟨d, c, p, ss, rfl, S, hp, pc, s0, s1, k⟩ := h
    refine ⟨_, pss_cons (ps_set (i := 2) scClock.nd rfl (.inl rfl) (pe_op op_sub (pe_k CP hg hr (by decide) (by rfl) (pa_cons (pv 0) (pa_cons pe_int pa_nil))) pe_int))
      (pss_one (ps_ret (pe_tup (pa_cons (pe_op op_add (pv 2) (pe_k CO hg hr (by decide) (by rfl) (pa_cons (pv 0) (pa_cons (pe_lst (pa_cons pe_int (pa_cons pe_int (pa_cons pe_int
          (pa_cons (pe_op op_sub (pe_op op_pow pe_int pe_int) pe_int) (pa_cons (pe_op op_sub pe_int (pe_op op_pow pe_int pe_int)) pa_nil)))))) pa_nil))))
        (pa_cons (pe_k CO hg hr (by decide) (by rfl) (pa_cons (pv 0) (pa_cons (pv 1) pa_nil))) pa_nil))))), ?_⟩
    have pd : p ≠ d := by
      obtain ⟨ks, l, m, t, q1, q2⟩ := S.ex
      exact ne_of hp q1 (by intro z; cases z)
    refine ⟨_, rfl, d, c, 41, rfl, S, (by decide), fun r H1 r0 r1 S1 k1 => ?_⟩
    refine ⟨r, 20, rfl, rfl, ?_⟩
    refine ⟨_, rfl, _, rfl, _, _, rfl, rfl, ⟨by decide, by decide, by decide⟩, _, _, rfl, rfl, _, _, rfl, rfl, ⟨by decide, by decide, by decide⟩, _, _, rfl, rfl, (by show 5 ≤ sizeLine; decide), fun q nq => ?_⟩
    have k2 := k1.new (o := .lst (([0, 0, 0, 10 ^ 30 - 1000, 1000 - 10 ^ 30] : List Int).map V.int)) nq
    refine ⟨d, c, q, ([0, 0, 0, 10 ^ 30 - 1000, 1000 - 10 ^ 30] : List Int).map V.int, rfl, S1.new nq, upd_same, (S1.away nq).2, (by show 0 < 5; decide), (by show 5 < 1000000000; decide), ?_⟩
    intro i v H2 hi S2 k3
    obtain ⟨z, hz, rfl⟩ := int_at hi
    have bz := far_small (List.mem_of_getElem? hz)
    have k4 := k2.trans k3
    refine ⟨_, _, rfl, rfl, _, rfl, _, rfl, d, c, p, ss.map V.int, rfl, S2, k4 p _ hp pd pc, pc, by rw [List.length_map]; exact s0, by rw [List.length_map]; omega, ?_⟩
    intro j u H3 hj S3 k5
    obtain ⟨y, hy, rfl⟩ := int_at hj
    refine ⟨(by show 2 ≤ sizeLine; decide), fun t nt => ?_⟩
    refine k t _ y _ upd_same (List.mem_of_getElem? hy) ?_ (S3.new nt) ((k4.trans k5).new nt)
    omega
theorem scLAlike : FnScope ["source", "clock"] ["source", "clock"] (defScope sLAlike) := ⟨rfl, rfl, rfl, by decide +kernel, rfl, by decide +kernel, by decide +kernel⟩
theorem ok_lAlike (F : Fun K "_law_alike" "_law_alike" sLAlike f fd) (CO : Cb P w K mg base 2 "_law_of" spOf) : FnG P w K mg base 3 f fd ["source", "clock"] spLAlike := by
  refine okG F scLAlike (fun vs H Q E h => ?_) (fun cdv A outer s H vs Q E hg hr h => ?_)
  · obtain ⟨d, c, t, f, s, rfl, _⟩ := h
    rfl
  · obtain ⟨d, c, t, f, s, rfl, S, ht, s0, s1, k⟩ := h
    refine ⟨_, (pss_one (ps_ret (pe_tup (pa_cons (pe_op op_add (pe_ix ix_tup (pv 1) pe_int (fun _ _ => rfl)) (pe_op op_mul (pe_ix ix_tup (pv 1) pe_int (fun _ _ => rfl)) (pe_k CO hg hr (by decide) (by rfl) (pa_cons (pv 0) (pa_cons (pe_lst (pa_cons pe_int (pa_cons pe_int (pa_cons pe_int (pa_cons (pe_un un_neg pe_int) (pa_cons pe_int pa_nil)))))) pa_nil))))) (pa_cons (pe_ix ix_tup (pv 1) pe_int (fun _ _ => rfl)) pa_nil))))), ?_⟩
    refine ⟨_, rfl, t, _, _, _, rfl, rfl, SqT.of ht, at0, _, rfl, t, _, _, _, rfl, rfl, SqT.of ht, at1, _, rfl, _, rfl, (by show 5 ≤ sizeLine; decide), fun q nq => ?_⟩
    refine ⟨d, c, q, ([0, 0, 1, -3, 7] : List Int).map V.int, rfl, S.new nq, upd_same, (S.away nq).2, (by show 0 < 5; decide), (by show 5 < 1000000000; decide), ?_⟩
    intro i v H2 hi S2 k3
    obtain ⟨z, hz, rfl⟩ := int_at hi
    have bz := few_small (List.mem_of_getElem? hz)
    have k4 := (Keep.refl.new (d := d) (c := c) (o := .lst (([0, 0, 1, -3, 7] : List Int).map V.int)) nq).trans k3
    have ht2 := k4.tup S ht
    refine ⟨s, z, rfl, rfl, .inl ⟨by omega, by omega⟩, _, _, rfl, rfl, _, rfl, t, _, _, _, rfl, rfl, SqT.of ht2, at1, (by show 2 ≤ sizeLine; decide), fun u nu => ?_⟩
    have al : (f + s * z - f) % s = 0 := by
      rw [show f + s * z - f = s * z by omega]
      exact Int.mul_emod_right _ _
    have sz : (f + s * z).natAbs ≤ f.natAbs + 420 := by
      have m : (s * z).natAbs ≤ 60 * 7 := by
        rw [Int.natAbs_mul]
        exact Nat.mul_le_mul (by omega) (by omega)
      omega
    exact k u _ _ upd_same al sz (S2.new nu) (k4.new nu)
end
end L15
namespace L15
open PySem PySem.Spec L2 Rt Rs Ld
open PyProof.Rows hiding St

abbrev sIsPer : Stmt := top 9
abbrev sIsClk : Stmt := top 12
abbrev sWRow : Stmt := top 13
abbrev sWLead : Stmt := top 14
abbrev sInit : Stmt := inClass (top 15) 0
abbrev sMStart : Stmt := inClass (top 15) 1
abbrev sMEnd : Stmt := inClass (top 15) 2
abbrev sMPeriod : Stmt := inClass (top 15) 3
abbrev sMRow : Stmt := inClass (top 15) 4
abbrev sMAt : Stmt := inClass (top 15) 5
/-! ### what a lead is -/
structure LP where
  f : Int
  s : Int
  g : Int
  r : Int
  n : Int
structure LOk (L : LP) (F : Int → Int) : Prop where
  sem : Sem L.f L.s L.g L.r L.n F
  s1 : L.s ≤ 60
  r1 : L.r ≤ 60
  n1 : L.n ≤ 3600
abbrev rowOf (L : LP) (F : Int → Int) : List Int := (nums L.f L.s L.n).map F
structure LdAt (H : Hp) (C a : Addr) (L : LP) (F : Int → Int) : Prop where
  ex : ∃ dx sa ea ra, H a = some (.ins C dx [("_start", .ref sa), ("_end", .ref ea), ("_period", .int L.n), ("_row", .ref ra)]) ∧ H sa = some (.tup [.int L.f, .int L.s]) ∧ H ea = some (.tup [.int L.g, .int L.r]) ∧ H ra = some (.tup ((rowOf L F).map V.int))
theorem LdAt.same {H H' : Hp} {C a : Addr} {L : LP} {F : Int → Int} (h : LdAt H C a L F) (s : Same H H') : LdAt H' C a L F := by
  obtain ⟨dx, sa, ea, ra, h1, h2, h3, h4⟩ := h.ex
  exact ⟨dx, sa, ea, ra, s _ _ h1, s _ _ h2, s _ _ h3, s _ _ h4⟩
theorem LdAt.mask {H : Hp} {C a d c : Addr} {L : LP} {F : Int → Int} (h : LdAt H C a L F) (S : Src H d c) : LdAt (Rs.mask d c H) C a L F := by
  obtain ⟨dx, sa, ea, ra, h1, h2, h3, h4⟩ := h.ex
  obtain ⟨ks, l, m, t, q1, q2⟩ := S.ex
  have tup : ∀ {b : Addr} {xs : List V}, H b = some (.tup xs) → Rs.mask d c H b = some (.tup xs) := fun e => mask_at (S.nd e) e
  exact ⟨dx, sa, ea, ra, mask_at ⟨ne_of h1 q1 (by intro z; cases z), ne_of h1 q2 (by intro z; cases z)⟩ h1, tup h2, tup h3, tup h4⟩
theorem row_len (L : LP) (F : Int → Int) : (rowOf L F).length = (L.n / L.s).toNat := by rw [List.length_map, nums_len]
theorem LOk.pos {L : LP} {F : Int → Int} (h : LOk L F) : 0 < (L.n / L.s).toNat := by
  obtain ⟨q, e⟩ := h.sem.sd
  have s0 := h.sem.s0
  have n0 := h.sem.n0
  have n0' := n0
  rw [e] at n0'
  have q0 : 0 < q := Int.pos_of_mul_pos_right n0' s0
  rw [e, Int.mul_ediv_cancel_left q (by omega)]
  omega
theorem LOk.few {L : LP} {F : Int → Int} (h : LOk L F) : (L.n / L.s).toNat ≤ 3600 := by
  have s0 := h.sem.s0
  have n0 := h.sem.n0
  have n1 := h.n1
  have := Int.ediv_le_self L.s (show 0 ≤ L.n by omega)
  omega
theorem row_at {L : LP} {F : Int → Int} {i : Nat} (h : i < (L.n / L.s).toNat) : (rowOf L F)[i]? = some (F (L.f % L.s + (i : Nat) * L.s)) := by
  rw [List.getElem?_map, nums_at h]
  rfl
theorem LOk.on_at {L : LP} {F : Int → Int} (h : LOk L F) {i : Nat} (hi : i < (L.n / L.s).toNat) : (L.f % L.s + (i : Nat) * L.s - L.f) % L.s = 0 :=
  nums_on h.sem.s0 h.sem.sd (List.mem_of_getElem? (nums_at hi))
theorem dvd_mod {s n : Int} (d : s ∣ n) : n % s = 0 := Int.emod_eq_zero_of_dvd d
def spRests : Sp := fun vs H Q _ => ∃ (t : Addr) (f s n : Int), vs = [.ref t, .int n] ∧ H t = some (.tup [.int f, .int s]) ∧ 0 < s ∧ s ≤ 60 ∧ s ∣ n ∧ 0 < n ∧ n ≤ 3600 ∧ ∀ p, H p = none → Q (.ref p) (upd H p (.lst ((nums f s n).map V.int)))
def spIsPer : Sp := fun vs H Q _ => ∃ (l : Addr) (n : Int) (ss : List Int), vs = [.int n, .ref l] ∧ H l = some (.lst (ss.map V.int)) ∧ 1 ≤ n ∧ (∀ s, s ∈ ss → 0 < s ∧ s ∣ n) ∧ ss.length ≤ 100 ∧ ∀ H', Same H H' → Q (.bl true) H'
def spIsClk : Sp := fun vs H Q _ => ∃ (t : Addr) (f s : Int), vs = [.ref t] ∧ H t = some (.tup [.int f, .int s]) ∧ 0 < s ∧ s ≤ 60 ∧ Q (.bl true) H
def spWRow : Sp := fun vs H Q _ => ∃ (p e : Addr) (L : LP) (F : Int → Int), vs = [.ref p, .ref e, .int L.n] ∧ H p = some (.lst ((rowOf L F).map V.int)) ∧ H e = some (.tup [.int L.g, .int L.r]) ∧ LOk L F ∧ ∀ H', Same H H' → Q .non H'
def spWLead : Sp := fun vs H Q _ => ∃ (p b e : Addr) (L : LP) (F : Int → Int), vs = [.ref b, .ref e, .int L.n, .ref p] ∧ H p = some (.lst ((rowOf L F).map V.int)) ∧ H b = some (.tup [.int L.f, .int L.s]) ∧ H e = some (.tup [.int L.g, .int L.r]) ∧ LOk L F ∧ ∀ H', Same H H' → Q .non H'
def spInit (C : Addr) : Sp := fun vs H Q _ => ∃ (a dx p b e : Addr) (L : LP) (F : Int → Int), vs = [.ref a, .ref b, .ref e, .int L.n, .ref p] ∧ H a = some (.ins C dx []) ∧ H p = some (.lst ((rowOf L F).map V.int)) ∧ H b = some (.tup [.int L.f, .int L.s]) ∧ H e = some (.tup [.int L.g, .int L.r]) ∧ LOk L F ∧
  ∀ H', Sbut a H H' → LdAt H' C a L F → Q .non H'
def spMStart (C : Addr) : Sp := fun vs H Q _ => ∃ (a : Addr) (L : LP) (F : Int → Int), vs = [.ref a] ∧ LdAt H C a L F ∧ ∀ t, H t = some (.tup [.int L.f, .int L.s]) → Q (.ref t) H
def spMEnd (C : Addr) : Sp := fun vs H Q _ => ∃ (a : Addr) (L : LP) (F : Int → Int), vs = [.ref a] ∧ LdAt H C a L F ∧ ∀ t, H t = some (.tup [.int L.g, .int L.r]) → Q (.ref t) H
def spMPeriod (C : Addr) : Sp := fun vs H Q _ => ∃ (a : Addr) (L : LP) (F : Int → Int), vs = [.ref a] ∧ LdAt H C a L F ∧ Q (.int L.n) H
def spMRow (C : Addr) : Sp := fun vs H Q _ => ∃ (a : Addr) (L : LP) (F : Int → Int), vs = [.ref a] ∧ LdAt H C a L F ∧ ∀ p, H p = none → Q (.ref p) (upd H p (.lst ((rowOf L F).map V.int)))
def spMAt (C : Addr) : Sp := fun vs H Q _ => ∃ (a : Addr) (L : LP) (F : Int → Int) (v : Int), vs = [.ref a, .int v] ∧ LdAt H C a L F ∧ LOk L F ∧ (v - L.f) % L.s = 0 ∧ Q (.int (F v)) H
structure ClsL (K : PySem.W.Frag) (C : Addr) : Prop where
  cls : Cls K C
  n1 : NoAttr K C "_start"
  n2 : NoAttr K C "_end"
  n3 : NoAttr K C "_period"
  n4 : NoAttr K C "_row"
section
variable {a b c d : V}
theorem look_s : List.lookup ("_start" : Str) [(("_start" : Str), a), (("_end" : Str), b), (("_period" : Str), c), (("_row" : Str), d)] = some a := rfl
theorem look_e : List.lookup ("_end" : Str) [(("_start" : Str), a), (("_end" : Str), b), (("_period" : Str), c), (("_row" : Str), d)] = some b := by
  have h : (("_end" : Str) == ("_start" : Str)) = false := by decide +kernel
  simp [List.lookup, h]
theorem look_n : List.lookup ("_period" : Str) [(("_start" : Str), a), (("_end" : Str), b), (("_period" : Str), c), (("_row" : Str), d)] = some c := by
  have h : (("_period" : Str) == ("_start" : Str)) = false := by decide +kernel
  have g : (("_period" : Str) == ("_end" : Str)) = false := by decide +kernel
  simp [List.lookup, h, g]
theorem look_w : List.lookup ("_row" : Str) [(("_start" : Str), a), (("_end" : Str), b), (("_period" : Str), c), (("_row" : Str), d)] = some d := by
  have h : (("_row" : Str) == ("_start" : Str)) = false := by decide +kernel
  have g : (("_row" : Str) == ("_end" : Str)) = false := by decide +kernel
  have k : (("_row" : Str) == ("_period" : Str)) = false := by decide +kernel
  simp [List.lookup, h, g, k]
theorem look_no {m : Str} (h1 : (m == ("_start" : Str)) = false) (h2 : (m == ("_end" : Str)) = false) (h3 : (m == ("_period" : Str)) = false) (h4 : (m == ("_row" : Str)) = false) : List.lookup m [(("_start" : Str), a), (("_end" : Str), b), (("_period" : Str), c), (("_row" : Str), d)] = none := by
  simp [List.lookup, h1, h2, h3, h4]
theorem putL_2 : putF "_end" b [(("_start" : Str), a)] = [(("_start" : Str), a), (("_end" : Str), b)] := by
  simp only [putF]
  rw [if_neg (by decide +kernel)]
theorem putL_3 : putF "_period" c [(("_start" : Str), a), (("_end" : Str), b)] = [(("_start" : Str), a), (("_end" : Str), b), (("_period" : Str), c)] := by
  simp only [putF]
  rw [if_neg (by decide +kernel), if_neg (by decide +kernel)]
theorem putL_4 : putF "_row" d [(("_start" : Str), a), (("_end" : Str), b), (("_period" : Str), c)] = [(("_start" : Str), a), (("_end" : Str), b), (("_period" : Str), c), (("_row" : Str), d)] := by
  simp only [putF]
  rw [if_neg (by decide +kernel), if_neg (by decide +kernel), if_neg (by decide +kernel)]
end
/-- the numbers of a clock as range goes -/
theorem rg_nums {f s n : Int} (s0 : 0 < s) (s1 : s ≤ 60) (d : s ∣ n) (n0 : 0 < n) (n1 : n ≤ 3600) : RgC (f % s) n s (n / s).toNat ∧ rgC (f % s) s (n / s).toNat = (nums f s n).map V.int := by
  have r0 := Int.emod_nonneg f (show s ≠ 0 by omega)
  have r1 := Int.emod_lt_of_pos f s0
  obtain ⟨q, rfl⟩ := d
  have q0 : 0 < q := Int.pos_of_mul_pos_right n0 s0
  have eq : s * q / s = q := Int.mul_ediv_cancel_left q (by omega)
  have le : s * 1 ≤ s * q := Int.mul_le_mul_of_nonneg_left (by omega) (by omega)
  have sz : Builtin.Range.rangeSize (f % s) (s * q) s = q := by
    unfold Builtin.Range.rangeSize
    rw [if_pos (show s > 0 from s0), if_pos (by omega)]
    have e : (s * q - f % s - 1) / s = q - 1 := by
      rw [show s * q - f % s - 1 = (s - 1 - f % s) + s * (q - 1) by rw [Int.mul_sub]; omega, Int.add_mul_ediv_left _ _ (by omega), Int.ediv_eq_zero_of_lt (by omega) (by omega)]
      omega
    rw [e]
    omega
  refine ⟨⟨by omega, by omega, ?_, by rw [sz, eq]; omega⟩, ?_⟩
  · unfold Builtin.Range.small
    rw [sz]
    have qq : q ≤ s * q := by
      have : 1 * q ≤ s * q := Int.mul_le_mul_of_nonneg_right (by omega) (by omega)
      omega
    simp only [Builtin.Range.rangeFitsLong, Bool.and_eq_true, Bool.or_eq_true, decide_eq_true_eq, beq_iff_eq, s0, if_true]
    omega
  · unfold rgC nums
    rw [List.map_map]
    rfl
section
variable {P : Program} {w : World} {K : PySem.W.Frag} {mg : Str → Option Value} {base : Heap} {f C : Addr} {fd : FuncData}

theorem scIsPer : FnScope ["value", "steps", "step"] ["value", "steps"] (defScope sIsPer) := ⟨rfl, rfl, rfl, by decide +kernel, rfl, by decide +kernel, by decide +kernel⟩
theorem ok_isPer (F : Fun K "is_period" "is_period" sIsPer f fd) (T : Wds mg) (isInt : Cf P w K mg base 1 "is_integer" spIsInt) : FnOk P w K mg base CX0 2 f fd ["value", "steps"] spIsPer := by
  refine F.ok scIsPer (fun vs H Q E h => ?_) (fun cdv A outer s H vs Q E hr h => ?_)
  · obtain ⟨l, n, ss, rfl, _⟩ := h
    rfl
  · obtain ⟨l, n, ss, rfl, hl, n1, dv, few, k⟩ := h
    refine ⟨_, (pss_one (ps_ret (pe_and (pe_f isInt hr (by decide) (by rfl) (pa_cons (pv 0) pa_nil)) (pe_and (pe_cmpR op_ge (pv 0) pe_int (nomark _)) (pe_one (pe_callB (cr_all (by rfl)) (by rfl) T.zall (by decide +kernel) (pa_cons (pe_lc (own := [("step", 2)]) (by rfl) scIsPer.nd (pi_list (pv 1)) (blkOk_by (N := ["value", "steps", "step"]) (sc := defScope sIsPer) (by decide +kernel)) (fun _ _ _ _ _ => (pg_name (i := 2) scIsPer.nd rfl (.inl rfl))) (fun _ _ _ _ _ => pts_nil) (fun _ _ _ _ _ => (pe_cmpR op_eq (pe_op op_mod (pv 0) (pv 2)) pe_int (nomark _)))) pa_nil))))))), ?_⟩
    refine ⟨_, rfl, .int n, rfl, True.intro, true, rfl, iteT ?_⟩
    refine ⟨_, rfl, _, _, rfl, rfl, _, rfl, ?_⟩
    rw [decide_eq_true (show (1 : Int) ≤ n from n1)]
    refine iteT ?_
    refine ⟨_, rfl, l, rfl, ⟨_, SqL.of hl⟩, fun D nD => ?_⟩
    refine lc_it walk_list (fun i H1 => Same H H1 ∧ H1 D = some (.lst ((List.replicate i true).map V.bl))) ⟨same_new nD, upd_same⟩ (fun i H1 _ z => SqL.of (z.1 _ _ hl)) ?_ ?_
    · rintro i y H1 H2 hi ⟨s1, hD⟩ ⟨rfl, hy⟩
      obtain ⟨z, hz, rfl⟩ := int_at hy
      obtain ⟨z0, zd⟩ := dv z (List.mem_of_getElem? hz)
      refine ⟨rfl, _, rfl, _, rfl, _, _, rfl, rfl, z0, rfl, ?_⟩
      rw [dec_V, decide_eq_true (dvd_mod zd)]
      refine ⟨_, hD, small1000 (by rw [List.length_map, List.length_replicate]; rw [List.length_map] at hi; omega), fun b o q => by rw [upd_ne (ne_of_none q nD)]; exact s1 b o q, ?_⟩
      rw [upd_same, List.replicate_succ', List.map_append]
      rfl
    · rintro H1 ⟨s1, hD⟩
      refine ⟨D, _, rfl, SqL.of hD, ?_⟩
      rw [show (List.replicate (ss.map V.int).length true).all id = true by simp]
      exact k H1 s1
theorem scIsClk : FnScope ["value", "first", "step"] ["value"] (defScope sIsClk) := ⟨rfl, rfl, rfl, by decide +kernel, rfl, by decide +kernel, by decide +kernel⟩
theorem ok_isClk (F : Fun K "is_clock" "is_clock" sIsClk f fd) (T : Wds mg) (isInt : Cf P w K mg base 1 "is_integer" spIsInt) : FnOk P w K mg base CX0 2 f fd ["value"] spIsClk := by
  refine F.ok scIsClk (fun vs H Q E h => ?_) (fun cdv A outer s H vs Q E hr h => ?_)
  · obtain ⟨t, f, s, rfl, _⟩ := h
    rfl
  · obtain ⟨t, f, s, rfl, ht, s0, s1, k⟩ := h
    obtain ⟨tk, hGS⟩ := T.gs
    refine ⟨_, (pss_cons (ps_if (PW.pt (pw_or (pt_not (pt_val (pe_callB call_isi (by rfl) T.zisinstance (by decide +kernel) (pa_cons (pv 0) (pa_cons (pe_bltn (v := .ty "tuple") (by rfl) T.ztuple (by decide +kernel) rfl) pa_nil))))) (pw_or1 (pt_cmpR op_ne (pe_callB call_len_seq (by rfl) T.zlen (by decide +kernel) (pa_cons (pv 0) pa_nil)) pe_int (nomark _))))) (pss_one (ps_ret pe_bl)) pss_nil)
      (pss_cons (ps_asg (pv 0) (pg_tup (by rfl) (pgs_cons (pg_name (i := 1) scIsClk.nd rfl (.inl rfl)) (pgs_cons (pg_name (i := 2) scIsClk.nd rfl (.inl rfl)) pgs_nil))))
      (pss_one (ps_ret (pe_and (pe_f isInt hr (by decide) (by rfl) (pa_cons (pv 1) pa_nil)) (pe_and (pe_f isInt hr (by decide) (by rfl) (pa_cons (pv 2) pa_nil)) (pe_one (pe_chain op_le op_le pe_int (pv 2) (pe_glob (v := .int 60) (by rfl) hGS ⟨_, rfl⟩))))))))), ?_⟩
    refine ⟨_, rfl, .ref t, .ty "tuple", _, .type "tuple", true, rfl, .ty _, .base (.tup ht), kit_ty (by decide +kernel), true, rfl, iteF ?_⟩
    refine ⟨_, rfl, t, _, rfl, .inr (SqT.of ht), rfl, _, rfl, iteF ?_⟩
    refine ⟨_, rfl, t, _, rfl, SqT.of ht, rfl, _, _, rfl, _, _, rfl, rfl, ?_⟩
    refine ⟨_, rfl, .int f, rfl, True.intro, true, rfl, iteT ?_⟩
    refine ⟨_, rfl, .int s, rfl, True.intro, true, rfl, iteT ?_⟩
    refine ⟨_, rfl, _, _, rfl, rfl, _, rfl, ?_⟩
    rw [decide_eq_true (show (1 : Int) ≤ s by omega)]
    refine iteT ⟨_, _, rfl, rfl, ?_⟩
    show Q (.bl (decide (s ≤ 60))) H
    rw [decide_eq_true (show s ≤ (60 : Int) from s1)]
    exact k
end
end L15
namespace L15
open PySem PySem.Spec L2 Rt Rs Ld
open PyProof.Rows hiding St

section
variable {P : Program} {w : World} {K : PySem.W.Frag} {mg : Str → Option Value} {base : Heap} {f C : Addr} {fd : FuncData}

theorem scWRow : FnScope ["row", "end", "period", "k", "value"] ["row", "end", "period"] (defScope sWRow) := ⟨rfl, rfl, rfl, by decide +kernel, rfl, by decide +kernel, by decide +kernel⟩
theorem ok_wRow (F : Fun K "wrong_in_row" "wrong_in_row" sWRow f fd) (T : Wds mg) (isOn : Cf P w K mg base 2 "is_on" spOn) : FnOk P w K mg base CX0 3 f fd ["row", "end", "period"] spWRow := by
  refine F.ok scWRow (fun vs H Q E h => ?_) (fun cdv A outer s H vs Q E hr h => ?_)
  · obtain ⟨p, e, L, F, rfl, _⟩ := h
    rfl
  · obtain ⟨p, e, L, F, rfl, hp, he, ok, k⟩ := h
    have pos := ok.pos
    have few := ok.few
    have r0 := ok.sem.r0
    refine ⟨_, (pss_cons (ps_for PassesOwn.never rfl (pi_enum (by rfl) T.zenumerate (pa_cons (pv 0) pa_nil)) (pg_tup (by rfl) (pgs_cons (pg_name (i := 3) scWRow.nd rfl (.inl rfl)) (pgs_cons (pg_name (i := 4) scWRow.nd rfl (.inl rfl)) pgs_nil)))
        (pss_one (ps_if (pt_not (pt_val (pe_f isOn hr (by decide) (by rfl) (pa_cons (pv 1) (pa_cons (pv 4) pa_nil))))) (pss_one (ps_ret (pe_tup (pa_cons pe_int (pa_cons (pv 3) pa_nil))))) pss_nil)))
      (pss_cons (ps_for PassesOwn.never rfl (pi_range2 (by rfl) T.zrange (pa_cons pe_int (pa_cons (pe_callB call_len_seq (by rfl) T.zlen (by decide +kernel) (pa_cons (pv 0) pa_nil)) pa_nil))) (pg_name (i := 3) scWRow.nd rfl (.inl rfl))
        (pss_one (ps_if (pt_cmpR op_lt (pe_ix ix_list (pv 0) (pv 3) (fun _ _ => rfl)) (pe_ix ix_list (pv 0) (pe_op op_sub (pv 3) pe_int) (fun _ _ => rfl)) (nomark _)) (pss_one (ps_ret (pe_tup (pa_cons pe_int (pa_cons (pv 3) pa_nil))))) pss_nil)))
      (pss_cons (ps_if (pt_cmpR op_gt (pe_ix ix_list (pv 0) (pe_un un_neg pe_int) (fun _ _ => rfl)) (pe_op op_add (pe_ix ix_list (pv 0) pe_int (fun _ _ => rfl)) (pv 2)) (nomark _)) (pss_one (ps_ret (pe_tup (pa_cons pe_int (pa_cons pe_int pa_nil))))) pss_nil)
      (pss_one (ps_ret pe_non))))), ?_⟩
    have len : ((rowOf L F).map V.int).length = (L.n / L.s).toNat := by rw [List.length_map, row_len]
    have at_ : ∀ i : Nat, i < (L.n / L.s).toNat → ((rowOf L F).map V.int)[i]? = some (.int (F (L.f % L.s + (i : Nat) * L.s))) := fun i hi => by rw [List.getElem?_map, row_at hi]; rfl
    -- each is one of the end's clock
    refine ⟨_, rfl, p, _, rfl, SqL.of hp, ?_⟩
    refine for_it walk_enum (fun i σ H2 => ∃ (v3 v4 : Option V), σ = [some (.ref p), some (.ref e), some (.int L.n), v3, v4] ∧ Same H H2) ⟨_, _, rfl, Same.refl _⟩ (fun i σ H2 _ ⟨_, _, _, s⟩ => SqL.of (s _ _ hp)) ?_ ?_
    · rintro i y σ H2 H3 hi ⟨v3, v4, rfl, s2⟩ ⟨t, x1, x2, rfl, ht, rfl, h1, h2⟩
      obtain rfl : V.int (i : Nat) = x1 := Option.some.inj h1
      rw [len] at hi
      obtain rfl : V.int (F (L.f % L.s + (i : Nat) * L.s)) = x2 := Option.some.inj ((at_ i hi).symm.trans h2)
      have s3 := s2.trans (same_new (o := .tup [.int (i : Nat), .int (F (L.f % L.s + (i : Nat) * L.s))]) ht)
      refine ⟨t, _, rfl, SqT.of upd_same, rfl, _, _, rfl, _, _, rfl, rfl, ?_⟩
      refine ⟨_, rfl, _, rfl, e, L.g, L.r, _, rfl, s3 _ _ he, r0, True.intro, true, ?_, iteF ⟨_, _, rfl, s3⟩⟩
      show V.bl (onB L.g L.r (.int (F (L.f % L.s + (i : Nat) * L.s)))) = .bl true
      rw [show onB L.g L.r (.int (F (L.f % L.s + (i : Nat) * L.s))) = true from decide_eq_true (ok.sem.on _ (ok.on_at hi))]
    · rintro σ H2 ⟨v3, v4, rfl, s2⟩
      -- none is less than the one ahead of it
      have hp2 := s2 _ _ hp
      refine ⟨_, rfl, p, _, rfl, .inl (SqL.of hp2), 1, (((rowOf L F).map V.int).length : Int), rfl, ⟨by omega, by omega, by omega, by omega⟩, ?_⟩
      rw [len]
      refine for_range (lo := 1) (fun i σ H3 => ∃ (v3 v4 : Option V), σ = [some (.ref p), some (.ref e), some (.int L.n), v3, v4] ∧ H3 = H2) ⟨_, _, rfl, rfl⟩ ?_ ?_
      · rintro i σ H3 hi ⟨v3, v4, rfl, rfl⟩
        have hi1 : i + 1 < (L.n / L.s).toNat := by omega
        have hi0 : i < (L.n / L.s).toNat := by omega
        refine ⟨_, rfl, _, rfl, p, _, _, _, rfl, rfl, SqL.of hp2, at_of (j := i + 1) (by omega) (at_ _ hi1), ?_⟩
        refine ⟨_, rfl, _, rfl, _, _, rfl, rfl, p, _, _, _, rfl, rfl, SqL.of hp2, at_of (j := i) (by omega) (at_ _ hi0), _, _, rfl, rfl, _, rfl, ?_⟩
        have le := ok.sem.mono _ _ (ok.on_at hi0) (ok.on_at hi1) (by
          have s0 := ok.sem.s0
          rw [Int.natCast_add, Int.add_mul]
          omega)
        rw [decide_eq_false (show ¬ F (L.f % L.s + ((i + 1 : Nat) : Int) * L.s) < F (L.f % L.s + (i : Nat) * L.s) by omega)]
        exact iteF ⟨_, _, rfl, rfl⟩
      · rintro σ H3 ⟨v3, v4, rfl, rfl⟩
        -- the last is no more than the first and the period
        have hl : (L.n / L.s).toNat - 1 < (L.n / L.s).toNat := by omega
        have last : atI ((rowOf L F).map V.int) (-1) = some (.int (F (L.f % L.s + (((L.n / L.s).toNat - 1 : Nat) : Int) * L.s))) := by
          unfold atI ixN
          rw [if_neg (by omega), len, if_pos (by omega)]
          show ((rowOf L F).map V.int)[((-1 : Int) + ((L.n / L.s).toNat : Int)).toNat]? = _
          rw [show ((-1 : Int) + ((L.n / L.s).toNat : Int)).toNat = (L.n / L.s).toNat - 1 by omega]
          exact at_ _ hl
        refine ⟨_, rfl, 1, rfl, p, _, _, _, rfl, rfl, SqL.of hp2, last, ?_⟩
        refine ⟨_, rfl, p, _, _, _, rfl, rfl, SqL.of hp2, at_of (j := 0) rfl (at_ 0 pos), _, rfl, _, _, rfl, rfl, _, _, rfl, rfl, _, rfl, ?_⟩
        have le := ok.sem.mono _ (L.f % L.s + ((0 : Nat) : Int) * L.s + L.n) (ok.on_at hl) (on_add ok.sem.sd (ok.on_at pos)) (by
          have s0 := ok.sem.s0
          have m := (mem_nums (f := L.f) s0 ok.sem.sd).mp (List.mem_of_getElem? (nums_at hl))
          have z := (mem_nums (f := L.f) s0 ok.sem.sd).mp (List.mem_of_getElem? (nums_at pos))
          omega)
        rw [ok.sem.per _ (ok.on_at pos)] at le
        rw [decide_eq_false (show ¬ F (L.f % L.s + (((L.n / L.s).toNat - 1 : Nat) : Int) * L.s) > F (L.f % L.s + ((0 : Nat) : Int) * L.s) + L.n by omega)]
        exact iteF (k H3 s2)
theorem scWLead : FnScope ["start", "end", "period", "row"] ["start", "end", "period", "row"] (defScope sWLead) := ⟨rfl, rfl, rfl, by decide +kernel, rfl, by decide +kernel, by decide +kernel⟩
theorem ok_wLead (F : Fun K "wrong_in_lead" "wrong_in_lead" sWLead f fd) (T : Wds mg) (isClk : Cf P w K mg base 2 "is_clock" spIsClk) (isPer : Cf P w K mg base 2 "is_period" spIsPer) (wRow : Cf P w K mg base 3 "wrong_in_row" spWRow) : FnOk P w K mg base CX0 4 f fd ["start", "end", "period", "row"] spWLead := by
  refine F.ok scWLead (fun vs H Q E h => ?_) (fun cdv A outer s H vs Q E hr h => ?_)
  · obtain ⟨p, b, e, L, F, rfl, _⟩ := h
    rfl
  · obtain ⟨p, b, e, L, F, rfl, hp, hb, he, ok, k⟩ := h
    have s0 := ok.sem.s0
    have r0 := ok.sem.r0
    have n0 := ok.sem.n0
    have s1 := ok.s1
    have pos := ok.pos
    refine ⟨_, (pss_cons (ps_if (pt_not (pt_val (pe_f isClk hr (by decide) (by rfl) (pa_cons (pv 0) pa_nil)))) (pss_one (ps_ret (pe_tup (pa_cons pe_int pa_nil)))) pss_nil)
      (pss_cons (ps_if (pt_not (pt_val (pe_f isClk hr (by decide) (by rfl) (pa_cons (pv 1) pa_nil)))) (pss_one (ps_ret (pe_tup (pa_cons pe_int pa_nil)))) pss_nil)
      (pss_cons (ps_if (pt_not (pt_val (pe_f isPer hr (by decide) (by rfl) (pa_cons (pv 2) (pa_cons (pe_lst (pa_cons (pe_ix ix_tup (pv 0) pe_int (fun _ _ => rfl)) (pa_cons (pe_ix ix_tup (pv 1) pe_int (fun _ _ => rfl)) pa_nil))) pa_nil))))) (pss_one (ps_ret (pe_tup (pa_cons pe_int pa_nil)))) pss_nil)
      (pss_cons (ps_if (PW.pt (pw_or (pt_not (pt_val (pe_callB call_isiT (by rfl) T.zisinstance (by decide +kernel) (pa_cons (pv 3) (pa_cons (pe_tup (pa_cons (pe_bltn (v := .ty "list") (by rfl) T.zlist (by decide +kernel) rfl) (pa_cons (pe_bltn (v := .ty "tuple") (by rfl) T.ztuple (by decide +kernel) rfl) pa_nil))) pa_nil))))) (pw_or1 (pt_cmpR op_ne (pe_callB call_len_seq (by rfl) T.zlen (by decide +kernel) (pa_cons (pv 3) pa_nil)) (pe_op op_fdiv (pv 2) (pe_ix ix_tup (pv 0) pe_int (fun _ _ => rfl))) (nomark _))))) (pss_one (ps_ret (pe_tup (pa_cons pe_int pa_nil)))) pss_nil)
      (pss_one (ps_ret (pe_f wRow hr (by decide) (by rfl) (pa_cons (pv 3) (pa_cons (pv 1) (pa_cons (pv 2) pa_nil)))))))))), ?_⟩
    refine ⟨_, rfl, b, L.f, L.s, rfl, hb, s0, s1, true, rfl, iteF ?_⟩
    refine ⟨_, rfl, e, L.g, L.r, rfl, he, r0, ok.r1, true, rfl, iteF ?_⟩
    refine ⟨_, rfl, _, rfl, b, _, _, _, rfl, rfl, SqT.of hb, at1, _, rfl, e, _, _, _, rfl, rfl, SqT.of he, at1, (by show 2 ≤ sizeLine; decide), fun l nl => ?_⟩
    have s2 := same_new (o := .lst [.int L.s, .int L.r]) nl
    refine ⟨l, L.n, [L.s, L.r], rfl, upd_same, by omega, fun z hz => ?_, (by show 2 ≤ 100; decide), fun H1 s3 => ?_⟩
    · rcases List.mem_cons.mp hz with rfl | hz
      · exact ⟨s0, ok.sem.sd⟩
      · cases List.mem_singleton.mp hz
        exact ⟨r0, ok.sem.rd⟩
    refine ⟨true, rfl, iteF ?_⟩
    have s3 := s2.trans s3
    refine ⟨_, rfl, (by show 2 ≤ sizeLine; decide), fun tp nt => ?_⟩
    have s4 := s3.trans (same_new (o := .tup [.ty "list", .ty "tuple"]) nt)
    refine ⟨_, tp, _, .type "list", _, true, rfl, upd_same, .cons (.ty _) (.cons (.ty _) .nil), .base (.lst (s4 _ _ hp)), kitLT (.inl rfl), true, rfl, iteF ?_⟩
    refine ⟨_, rfl, p, _, rfl, .inl (SqL.of (s4 _ _ hp)), _, rfl, _, rfl, b, _, _, _, rfl, rfl, SqT.of (s4 _ _ hb), at1, _, _, rfl, rfl, ⟨s0, by omega⟩, rfl, ?_⟩
    rw [dec_V, List.length_map, row_len]
    have d0 : 0 ≤ L.n / L.s := Int.ediv_nonneg (by omega) (by omega)
    rw [decide_eq_true (show (((L.n / L.s).toNat : Nat) : Int) = L.n / L.s from Int.toNat_of_nonneg d0)]
    refine ⟨_, rfl, iteF ?_⟩
    exact ⟨_, rfl, _, rfl, _, rfl, p, e, L, F, rfl, s4 _ _ hp, s4 _ _ he, ok, fun H2 s5 => k H2 (s4.trans s5)⟩
theorem scInit : FnScope ["self", "start", "end", "period", "row", "wrong"] ["self", "start", "end", "period", "row"] (defScope sInit) := ⟨rfl, rfl, rfl, by decide +kernel, rfl, by decide +kernel, by decide +kernel⟩
theorem ok_init (F : Fun K "__init__" "Lead.__init__" sInit f fd) (T : Wds mg) (cn : ClsL K C) (wLead : Cf P w K mg base 4 "wrong_in_lead" spWLead) : FnOk P w K mg base CX0 5 f fd ["self", "start", "end", "period", "row"] (spInit C) := by
  refine F.ok scInit (fun vs H Q E h => ?_) (fun cdv A outer s H vs Q E hr h => ?_)
  · obtain ⟨a, dx, p, b, e, L, F, rfl, _⟩ := h
    rfl
  · obtain ⟨a, dx, p, b, e, L, F, rfl, ha, hp, hb, he, ok, k⟩ := h
    refine ⟨_, (pss_cons (ps_set (i := 5) scInit.nd rfl (.inl rfl) (pe_f wLead hr (by decide) (by rfl) (pa_cons (pv 1) (pa_cons (pv 2) (pa_cons (pv 3) (pa_cons (pv 4) pa_nil))))))
      (pss_cons (ps_if (pt_cmpR op_notN (pv 5) pe_non (nomark _)) (pss_one ps_never) pss_nil)
      (pss_cons (ps_fld (pv 0) (pv 1) (by rfl))
      (pss_cons (ps_fld (pv 0) (pv 2) (by rfl))
      (pss_cons (ps_fld (pv 0) (pv 3) (by rfl))
      (pss_one (ps_fld (pv 0) (pe_callTy call_tuple_of (by rfl) T.ztuple (by decide +kernel) (pa_cons (pv 4) pa_nil)) (by rfl)))))))), ?_⟩
    refine ⟨_, rfl, _, rfl, _, rfl, _, rfl, p, b, e, L, F, rfl, hp, hb, he, ok, fun H1 s1 => ?_⟩
    refine ⟨_, rfl, rfl, false, rfl, iteF ?_⟩
    refine ⟨_, rfl, _, rfl, a, C, dx, [], rfl, s1 _ _ ha, cn.cls, cn.n1, (by decide : 0 < 1000), ?_⟩
    rw [show putF "_start" (V.ref b) [] = [(("_start" : Str), V.ref b)] from rfl]
    refine ⟨_, rfl, _, rfl, a, C, dx, _, rfl, upd_same, cn.cls, cn.n2, (by decide : 1 < 1000), ?_⟩
    rw [upd_upd, putL_2]
    refine ⟨_, rfl, _, rfl, a, C, dx, _, rfl, upd_same, cn.cls, cn.n3, (by decide : 2 < 1000), ?_⟩
    rw [upd_upd, putL_3]
    have b1 : Sbut a H (upd H1 a (.ins C dx [("_start", .ref b), ("_end", .ref e), ("_period", .int L.n)])) := (Sbut.of s1).trans Sbut.put
    have ha1 := upd_same (H := H1) (a := a) (o := .ins C dx [("_start", .ref b), ("_end", .ref e), ("_period", .int L.n)])
    have pa : p ≠ a := ne_of hp ha (by intro z; cases z)
    have ba : b ≠ a := ne_of hb ha (by intro z; cases z)
    have ea : e ≠ a := ne_of he ha (by intro z; cases z)
    revert b1 ha1
    generalize upd H1 a (.ins C dx [("_start", .ref b), ("_end", .ref e), ("_period", .int L.n)]) = H2
    intro b1 ha1
    refine ⟨_, rfl, p, _, rfl, .inl ⟨SqL.of (b1 _ _ hp pa), fun t nt => ?_⟩⟩
    have s3 := same_new (o := .tup ((rowOf L F).map V.int)) nt
    have ht := upd_same (H := H2) (a := t) (o := .tup ((rowOf L F).map V.int))
    have ha3 := s3 _ _ ha1
    have ta : t ≠ a := ne_of ht ha3 (by intro z; cases z)
    refine ⟨_, rfl, a, C, dx, _, rfl, ha3, cn.cls, cn.n4, (by decide : 3 < 1000), ?_⟩
    rw [putL_4]
    have b4 : Sbut a H (upd (upd H2 t (.tup ((rowOf L F).map V.int))) a (.ins C dx [("_start", .ref b), ("_end", .ref e), ("_period", .int L.n), ("_row", .ref t)])) := (b1.trans (Sbut.of s3)).trans Sbut.put
    refine k _ b4 ⟨dx, b, e, t, upd_same, b4 _ _ hb ba, b4 _ _ he ea, ?_⟩
    rw [upd_ne ta]
    exact ht
theorem scMStart : FnScope ["self"] ["self"] (defScope sMStart) := ⟨rfl, rfl, rfl, by decide +kernel, rfl, by decide +kernel, by decide +kernel⟩
theorem ok_mstart (F : Fun K "start" "Lead.start" sMStart f fd) (T : Wds mg) (cn : ClsL K C) : FnOk P w K mg base CX0 1 f fd ["self"] (spMStart C) := by
  refine F.ok scMStart (fun vs H Q E h => ?_) (fun cdv A outer s H vs Q E hr h => ?_)
  · obtain ⟨a, L, F, rfl, _⟩ := h
    rfl
  · obtain ⟨a, L, F, rfl, ld, k⟩ := h
    refine ⟨_, (pss_one (ps_ret (pe_fld (pv 0) (by rfl)))), ?_⟩
    obtain ⟨dx, sa, ea, ra, h1, h2, h3, h4⟩ := ld.ex
    refine ⟨_, rfl, a, C, dx, _, _, rfl, h1, cn.cls, cn.n1, look_s, ?_⟩
    exact k sa h2
theorem scMEnd : FnScope ["self"] ["self"] (defScope sMEnd) := ⟨rfl, rfl, rfl, by decide +kernel, rfl, by decide +kernel, by decide +kernel⟩
theorem ok_mend (F : Fun K "end" "Lead.end" sMEnd f fd) (T : Wds mg) (cn : ClsL K C) : FnOk P w K mg base CX0 1 f fd ["self"] (spMEnd C) := by
  refine F.ok scMEnd (fun vs H Q E h => ?_) (fun cdv A outer s H vs Q E hr h => ?_)
  · obtain ⟨a, L, F, rfl, _⟩ := h
    rfl
  · obtain ⟨a, L, F, rfl, ld, k⟩ := h
    refine ⟨_, (pss_one (ps_ret (pe_fld (pv 0) (by rfl)))), ?_⟩
    obtain ⟨dx, sa, ea, ra, h1, h2, h3, h4⟩ := ld.ex
    refine ⟨_, rfl, a, C, dx, _, _, rfl, h1, cn.cls, cn.n2, look_e, ?_⟩
    exact k ea h3
theorem scMPeriod : FnScope ["self"] ["self"] (defScope sMPeriod) := ⟨rfl, rfl, rfl, by decide +kernel, rfl, by decide +kernel, by decide +kernel⟩
theorem ok_mperiod (F : Fun K "period" "Lead.period" sMPeriod f fd) (T : Wds mg) (cn : ClsL K C) : FnOk P w K mg base CX0 1 f fd ["self"] (spMPeriod C) := by
  refine F.ok scMPeriod (fun vs H Q E h => ?_) (fun cdv A outer s H vs Q E hr h => ?_)
  · obtain ⟨a, L, F, rfl, _⟩ := h
    rfl
  · obtain ⟨a, L, F, rfl, ld, k⟩ := h
    refine ⟨_, (pss_one (ps_ret (pe_fld (pv 0) (by rfl)))), ?_⟩
    obtain ⟨dx, sa, ea, ra, h1, h2, h3, h4⟩ := ld.ex
    refine ⟨_, rfl, a, C, dx, _, _, rfl, h1, cn.cls, cn.n3, look_n, ?_⟩
    exact k
theorem scMRow : FnScope ["self"] ["self"] (defScope sMRow) := ⟨rfl, rfl, rfl, by decide +kernel, rfl, by decide +kernel, by decide +kernel⟩
theorem ok_mrow (F : Fun K "row" "Lead.row" sMRow f fd) (T : Wds mg) (cn : ClsL K C) : FnOk P w K mg base CX0 1 f fd ["self"] (spMRow C) := by
  refine F.ok scMRow (fun vs H Q E h => ?_) (fun cdv A outer s H vs Q E hr h => ?_)
  · obtain ⟨a, L, F, rfl, _⟩ := h
    rfl
  · obtain ⟨a, L, F, rfl, ld, k⟩ := h
    refine ⟨_, (pss_one (ps_ret (pe_callTy call_list_of (by rfl) T.zlist (by decide +kernel) (pa_cons (pe_fld (pv 0) (by rfl)) pa_nil)))), ?_⟩
    obtain ⟨dx, sa, ea, ra, h1, h2, h3, h4⟩ := ld.ex
    refine ⟨_, rfl, a, C, dx, _, _, rfl, h1, cn.cls, cn.n4, look_w, ?_⟩
    exact ⟨ra, _, rfl, .inr (SqT.of h4), fun p np => k p np⟩
theorem scMAt : FnScope ["self", "v", "rest"] ["self", "v"] (defScope sMAt) := ⟨rfl, rfl, rfl, by decide +kernel, rfl, by decide +kernel, by decide +kernel⟩
theorem ok_mat (F : Fun K "at" "Lead.at" sMAt f fd) (T : Wds mg) (cn : ClsL K C) (isOn : Cf P w K mg base 2 "is_on" spOn) : FnOk P w K mg base CX0 3 f fd ["self", "v"] (spMAt C) := by
  refine F.ok scMAt (fun vs H Q E h => ?_) (fun cdv A outer s H vs Q E hr h => ?_)
  · obtain ⟨a, L, F, v, rfl, _⟩ := h
    rfl
  · obtain ⟨a, L, F, v, rfl, ld, ok, hv, k⟩ := h
    have s0 := ok.sem.s0
    have n0 := ok.sem.n0
    have s1 := ok.s1
    have n1 := ok.n1
    refine ⟨_, (pss_cons (ps_if (pt_not (pt_val (pe_f isOn hr (by decide) (by rfl) (pa_cons (pe_fld (pv 0) (by rfl)) (pa_cons (pv 1) pa_nil))))) (pss_one ps_never) pss_nil)
      (pss_cons (ps_set (i := 2) scMAt.nd rfl (.inl rfl) (pe_op op_mod (pv 1) (pe_fld (pv 0) (by rfl))))
      (pss_one (ps_ret (pe_op op_sub (pe_op op_add (pe_ix ix_tup (pe_fld (pv 0) (by rfl)) (pe_op op_fdiv (pv 2) (pe_ix ix_tup (pe_fld (pv 0) (by rfl)) pe_int (fun _ _ => rfl))) (fun _ _ => rfl)) (pv 1)) (pv 2)))))), ?_⟩
    obtain ⟨dx, sa, ea, ra, h1, h2, h3, h4⟩ := ld.ex
    refine ⟨_, rfl, a, C, dx, _, _, rfl, h1, cn.cls, cn.n1, look_s, _, rfl, sa, L.f, L.s, .int v, rfl, h2, s0, True.intro, true, ?_, iteF ?_⟩
    · show V.bl (onB L.f L.s (.int v)) = .bl true
      rw [show onB L.f L.s (.int v) = true from decide_eq_true hv]
    refine ⟨_, rfl, _, rfl, a, C, dx, _, _, rfl, h1, cn.cls, cn.n3, look_n, _, _, rfl, rfl, n0, ?_⟩
    have m0 := Int.emod_nonneg v (show L.n ≠ 0 by omega)
    have m1 := Int.emod_lt_of_pos v n0
    have em := Int.emod_add_mul_ediv v L.n
    have ho := on_rest ok.sem.sd hv
    obtain ⟨i, hi, ei⟩ := List.getElem_of_mem ((mem_nums s0 ok.sem.sd).mpr ⟨m0, m1, ho⟩)
    have hi' : i < (L.n / L.s).toNat := by rw [nums_len] at hi; exact hi
    have ev : v % L.n = L.f % L.s + (i : Int) * L.s := by
      have at_ := nums_at (f := L.f) hi'
      rw [List.getElem?_eq_getElem hi, ei] at at_
      exact Option.some.inj at_
    have r0 := Int.emod_nonneg L.f (show L.s ≠ 0 by omega)
    have r1 := Int.emod_lt_of_pos L.f s0
    have di : v % L.n / L.s = (i : Int) := by
      rw [ev, Int.add_mul_ediv_right _ _ (by omega), Int.ediv_eq_zero_of_lt r0 r1]
      omega
    refine ⟨_, rfl, a, C, dx, _, _, rfl, h1, cn.cls, cn.n4, look_w, _, rfl, _, rfl, a, C, dx, _, _, rfl, h1, cn.cls, cn.n1, look_s, sa, _, _, _, rfl, rfl, SqT.of h2, at1, _, _, rfl, rfl, ⟨s0, by omega⟩, ?_⟩
    refine ⟨ra, _, _, _, rfl, rfl, SqT.of h4, at_of (j := i) di (by rw [List.getElem?_map, row_at hi']; rfl), _, rfl, _, _, rfl, rfl, _, rfl, _, _, rfl, rfl, ?_⟩
    have p := ok.sem.perz ho (v / L.n)
    rw [show v % L.n + v / L.n * L.n = v by rw [Int.mul_comm (v / L.n)]; omega, ev] at p
    have e : F (L.f % L.s + (i : Int) * L.s) + v - v % L.n = F v := by
      rw [p, Int.mul_comm (v / L.n)]
      omega
    rw [← e] at k
    exact k
end
end L15
/-! own rules: zip of two lists whose pairs are kept under one name -/
namespace Rt
open PySem PySem.Spec L2 RZ
open PyProof.Rows hiding St
section
variable {prog : Program} {w : World} {A : Around} {E : Value → Shared → Prop} {s : Shared} {z TI TO i1 i2 l1 l2 : Addr} {r : Value} {g : Bool}
/-- what stands behind an item -/
def AfterL (D : Heap) (z TI TO i1 i2 l1 l2 : Addr) (k : Nat) (x y : Value) (h' : Heap) : Prop :=
  (∃ r g, ZAt h' z TI TO r g ∧ Out r) ∧ (∃ a b, IsPair h' TO a b) ∧ h'.IsListIter i1 l1 (k + 1) ∧ h'.IsListIter i2 l2 (k + 1) ∧ IsPair h' D.objs.size x y ∧ h'.objs.size = D.objs.size + 1 ∧
    ∀ c o, c ≠ z → c ≠ TO → c ≠ i1 → c ≠ i2 → D.get? c = some o → h'.get? c = some o
theorem znl_item {k : Nat} {xs ys : Array Value} {x y a b : Value} {Q : Value → Shared → Prop} (D : ZipApart z TI TO i1 i2 l1 l2) (hz : ZAt s.heap z TI TO r g) (hr : Out r) (pI : IsPair s.heap TI (.ref i1) (.ref i2)) (pO : IsPair s.heap TO a b)
    (u1 : s.heap.IsListIter i1 l1 k) (u2 : s.heap.IsListIter i2 l2 k) (t1 : s.heap.IsList l1 xs) (t2 : s.heap.IsList l2 ys) (ex : xs[k]? = some x) (ey : ys[k]? = some y)
    (now : ∀ h', AfterL s.heap z TI TO i1 i2 l1 l2 k x y h' → Q (.ref s.heap.objs.size) { s with heap := h' }) : wpAny (model prog w) A (Builtin.«zip.__next__» ⟨[.ref z], []⟩) (fun fin s' => ∃ v, fin = .done (.ret v) ∧ Q v s') E s := by
  show wpAny _ _ (field (.ref z) 2 >>= _) _ _ _
  refine wpAny_bind (wpAny_field hz rfl (x := .bool false) rfl ?_); show wpAny _ _ (field (.ref z) 3 >>= _) _ _ _
  refine wpAny_bind (wpAny_field hz rfl (x := .ref TI) rfl (wpAny_bind (wpAny_seqItems pI rfl ?_)))
  show wpAny _ _ (Builtin.SmallTypes.ownedTupleIsFree (.ref z) >>= _) _ _ _
  refine wpAny_bind (free_or hz hr ?_ fun ha za sa => ?_)
  · -- the pair is free: it is laid anew out of the kept one
    simp only [if_true]
    refine wpAny_bind (wpAny_rule (wpAny_bind (wpAny_field hz rfl (x := .ref TO) rfl ?_)))
    refine wpAny_bind (wpAny_setField_rec hz (by simp) fun ha za sa => wpAny_bind ?_)
    replace za : ZAt ha z TI TO .ellipsis g := za
    simp only [List.zipIdx_cons, List.zipIdx_nil, List.forIn_cons, List.forIn_nil]
    refine wpAny_bind ?_; refine wpAny_bind (wpAny_onRaise ?_)
    show wpAny _ _ (Builtin.SmallTypes.nextOf (.ref i1) >>= _) _ _ _
    refine wpAny_bind (wpAny_nextOf_list_item (u1.extBut sa.extBut D.i1z) (t1.extBut sa.extBut D.l1z) ex fun hb ub sb => wpAny_pure ?_)
    have pb : IsPair hb TO a b := sb.extBut _ _ D.TOi1 (sa.extBut _ _ D.TOz pO)
    refine wpAny_bind (wpAny_seqItems pb rfl (wpAny_bind (wpAny_updateSeq_pair pb fun hc pc sc => wpAny_bind (wpAny_letGo (wpAny_pure ?_)))))
    replace pc : IsPair hc TO x b := pc
    refine wpAny_bind ?_; refine wpAny_bind (wpAny_onRaise ?_)
    show wpAny _ _ (Builtin.SmallTypes.nextOf (.ref i2) >>= _) _ _ _
    have uc2 := ((u2.extBut sa.extBut D.i2z).extBut sb.extBut D.i12.symm).extBut sc.extBut D.TOi2.symm
    have tc2 := ((t2.extBut sa.extBut D.l2z).extBut sb.extBut D.l2i1).extBut sc.extBut D.l2TO
    refine wpAny_bind (wpAny_nextOf_list_item uc2 tc2 ey fun hd ud sd => wpAny_pure ?_)
    have pd : IsPair hd TO x b := sd.extBut _ _ D.TOi2 pc
    refine wpAny_bind (wpAny_seqItems pd rfl (wpAny_bind (wpAny_updateSeq_pair pd fun he pe se => wpAny_bind (wpAny_letGo (wpAny_pure (wpAny_pure ?_))))))
    replace pe : IsPair he TO x y := pe
    refine wpAny_bind (wpAny_seqItems pe rfl (wpAny_bind (wpAny_newTuple ?_)))
    have size : he.objs.size = s.heap.objs.size := by rw [se.1, sd.1, sc.1, sb.1, sa.1]
    have ze : ZAt he z TI TO .ellipsis g := se.extBut _ _ D.TOz.symm (sd.extBut _ _ D.i2z.symm (sc.extBut _ _ D.TOz.symm (sb.extBut _ _ D.i1z.symm za)))
    have stay : ∀ c o, c ≠ z → c ≠ TO → c ≠ i1 → c ≠ i2 → s.heap.get? c = some o → he.get? c = some o := fun c o n1 n2 n3 n4 e => se.extBut _ _ n2 (sd.extBut _ _ n4 (sc.extBut _ _ n2 (sb.extBut _ _ n3 (sa.extBut _ _ n1 e))))
    have ue1 : he.IsListIter i1 l1 (k + 1) := ((ub.extBut sc.extBut D.TOi1.symm).extBut sd.extBut D.i12).extBut se.extBut D.TOi1.symm
    have ue2 : he.IsListIter i2 l2 (k + 1) := ud.extBut se.extBut D.TOi2.symm
    have zlt : z < he.objs.size := Heap.lt_size ze
    show wpAny _ _ (Builtin.SmallTypes.ownedTupleHandOut (.ref z) (.ref he.objs.size) >>= _) _ _ _
    refine wpAny_bind ?_
    unfold Builtin.SmallTypes.ownedTupleHandOut
    have zf : ZAt (he.push { cls := .type "tuple", data := .seq #[x, y] }) z TI TO .ellipsis g := Heap.get?_push_of_some _ ze
    refine wpAny_bind (wpAny_setField_rec zf (by simp) fun hf zg sf => ?_)
    replace zg : ZAt hf z TI TO (rawInt he.objs.size) g := zg
    refine wpAny_setField_rec zg (by simp) fun hg zh sg => wpAny_pure ⟨_, rfl, ?_⟩
    replace zh : ZAt hg z TI TO (rawInt he.objs.size) false := zh
    have up : ∀ c o, c ≠ z → he.get? c = some o → hg.get? c = some o := fun c o n e => sg.extBut _ _ n (sf.extBut _ _ n (Heap.get?_push_of_some _ e))
    have pn : IsPair hg he.objs.size x y := sg.extBut _ _ (Nat.ne_of_gt zlt) (sf.extBut _ _ (Nat.ne_of_gt zlt) (Heap.get?_push_size _ rfl))
    have sz : hg.objs.size = he.objs.size + 1 := by rw [sg.1, sf.1, Heap.size_push]
    show Q (.ref he.objs.size) _
    rw [size] at pn sz ⊢
    exact now hg ⟨⟨_, _, zh, .inr ⟨_, rfl⟩⟩, ⟨_, _, up _ _ D.TOz pe⟩, ue1.at fun o e => up _ o D.i1z e, ue2.at fun o e => up _ o D.i2z e, pn, sz, fun c o n1 n2 n3 n4 e => up c o n1 (stay c o n1 n2 n3 n4 e)⟩
  · -- the pair is still out: a new one
    simp only [Bool.false_eq_true, if_false]
    refine wpAny_bind ?_
    rw [← Array.forIn_toList]
    simp only [List.forIn_cons, List.forIn_nil]
    refine wpAny_bind ?_; refine wpAny_bind (wpAny_holding ?_)
    show wpAny _ _ (Builtin.SmallTypes.nextOf (.ref i1) >>= _) _ _ _
    refine wpAny_bind (wpAny_nextOf_list_item (s := { s with heap := ha }) (u1.extBut sa.extBut D.i1z) (t1.extBut sa.extBut D.l1z) ex fun hb ub sb => wpAny_pure (wpAny_pure ?_))
    refine wpAny_bind ?_; refine wpAny_bind (wpAny_holding ?_)
    show wpAny _ _ (Builtin.SmallTypes.nextOf (.ref i2) >>= _) _ _ _
    have ub2 := (u2.extBut sa.extBut D.i2z).extBut sb.extBut D.i12.symm
    have tb2 := (t2.extBut sa.extBut D.l2z).extBut sb.extBut D.l2i1
    refine wpAny_bind (wpAny_nextOf_list_item (s := { s with heap := hb }) ub2 tb2 ey fun hc uc sc => wpAny_pure (wpAny_pure (wpAny_pure ?_)))
    show wpAny _ _ (newTuple [x, y] >>= _) _ _ _
    refine wpAny_bind (wpAny_newTuple (wpAny_pure ⟨_, rfl, ?_⟩))
    have size : hc.objs.size = s.heap.objs.size := by rw [sc.1, sb.1, sa.1]
    have zc : ZAt hc z TI TO r true := sc.extBut _ _ D.i2z.symm (sb.extBut _ _ D.i1z.symm za)
    have stay : ∀ c o, c ≠ z → c ≠ i1 → c ≠ i2 → s.heap.get? c = some o → hc.get? c = some o := fun c o n1 n2 n3 e => sc.extBut _ _ n3 (sb.extBut _ _ n2 (sa.extBut _ _ n1 e))
    have uc1 : hc.IsListIter i1 l1 (k + 1) := ub.extBut sc.extBut D.i12
    have pn : IsPair (hc.push { cls := .type "tuple", data := .seq #[x, y] }) hc.objs.size x y := Heap.get?_push_size _ rfl
    have sz : (hc.push { cls := .type "tuple", data := .seq #[x, y] }).objs.size = hc.objs.size + 1 := Heap.size_push ..
    show Q (.ref hc.objs.size) _
    rw [size] at pn sz ⊢
    exact now _ ⟨⟨_, _, Heap.get?_push_of_some _ zc, hr⟩, ⟨_, _, Heap.get?_push_of_some _ (stay _ _ D.TOz D.TOi1 D.TOi2 pO)⟩, uc1.at fun o e => Heap.get?_push_of_some _ e, uc.at fun o e => Heap.get?_push_of_some _ e, pn, sz,
      fun c o n1 _ n3 n4 e => Heap.get?_push_of_some _ (stay c o n1 n3 n4 e)⟩
end
section
variable {prog : Program} {w : World} {A : Around} {E : Value → Shared → Prop} {s : Shared} {z TI TO i1 i2 l1 l2 : Addr} {r : Value} {g : Bool}
theorem znl_end {k : Nat} {xs ys : Array Value} {a b : Value} {Q : Fin → Shared → Prop} (hh : A.handled = none) (D : ZipApart z TI TO i1 i2 l1 l2) (hz : ZAt s.heap z TI TO r g) (hr : Out r) (pI : IsPair s.heap TI (.ref i1) (.ref i2))
    (u1 : s.heap.IsListIter i1 l1 k) (t1 : s.heap.IsList l1 xs) (ex : xs[k]? = none)
    (out : ∀ h' e, (∀ c o, c ≠ z → c ≠ TO → c ≠ i1 → c ≠ i2 → s.heap.get? c = some o → h'.get? c = some o) → (∃ o, h'.get? e = some o ∧ o.cls = .type "StopIteration") → E (.ref e) { s with heap := h' }) : wpAny (model prog w) A (Builtin.«zip.__next__» ⟨[.ref z], []⟩) Q E s := by
  show wpAny _ _ (field (.ref z) 2 >>= _) _ _ _
  refine wpAny_bind (wpAny_field hz rfl (x := .bool false) rfl ?_); show wpAny _ _ (field (.ref z) 3 >>= _) _ _ _
  refine wpAny_bind (wpAny_field hz rfl (x := .ref TI) rfl (wpAny_bind (wpAny_seqItems pI rfl ?_)))
  show wpAny _ _ (Builtin.SmallTypes.ownedTupleIsFree (.ref z) >>= _) _ _ _
  refine wpAny_bind (free_or hz hr ?_ fun ha za sa => ?_)
  · simp only [if_true]
    refine wpAny_bind (wpAny_rule (wpAny_bind (wpAny_field hz rfl (x := .ref TO) rfl ?_)))
    refine wpAny_bind (wpAny_setField_rec hz (by simp) fun ha za sa => wpAny_bind ?_)
    replace za : ZAt ha z TI TO .ellipsis g := za
    simp only [List.zipIdx_cons, List.zipIdx_nil, List.forIn_cons, List.forIn_nil]
    refine wpAny_bind ?_; refine wpAny_bind (wpAny_onRaise ?_)
    show wpAny _ _ (Builtin.SmallTypes.nextOf (.ref i1) >>= _) _ _ _
    refine wpAny_bind (wpAny_nextOf_list_end hh (u1.extBut sa.extBut D.i1z) (t1.extBut sa.extBut D.l1z) ex fun hb e sb he => ?_)
    obtain ⟨oe, e1, e2⟩ := he
    have zb : ZAt hb z TI TO .ellipsis g := sb _ _ D.i1z.symm za
    have ne : e ≠ z := fun same => by subst same; rw [zb] at e1; cases e1; simp at e2
    refine wpAny_setField_rec zb (by simp) fun hc _ sc => out hc e (fun c o n1 _ n3 _ q => ?_) ⟨oe, sc.extBut _ _ ne e1, e2⟩
    exact sc.extBut _ _ n1 (sb _ _ n3 (sa.extBut _ _ n1 q))
  · simp only [Bool.false_eq_true, if_false]
    refine wpAny_bind ?_
    rw [← Array.forIn_toList]
    simp only [List.forIn_cons, List.forIn_nil]
    refine wpAny_bind ?_; refine wpAny_bind (wpAny_holding ?_)
    show wpAny _ _ (Builtin.SmallTypes.nextOf (.ref i1) >>= _) _ _ _
    refine wpAny_bind (wpAny_nextOf_list_end (s := { s with heap := ha }) hh (u1.extBut sa.extBut D.i1z) (t1.extBut sa.extBut D.l1z) ex fun hb e sb he => out hb e (fun c o n1 _ n3 _ q => ?_) he)
    exact sb _ _ n3 (sa.extBut _ _ n1 q)
theorem next_znl {k : Nat} {xs ys : Array Value} {x y a b : Value} {Q : Option Value → Shared → Prop} (D : ZipApart z TI TO i1 i2 l1 l2) (hz : ZAt s.heap z TI TO r g) (hr : Out r) (pI : IsPair s.heap TI (.ref i1) (.ref i2)) (pO : IsPair s.heap TO a b)
    (u1 : s.heap.IsListIter i1 l1 k) (u2 : s.heap.IsListIter i2 l2 k) (t1 : s.heap.IsList l1 xs) (t2 : s.heap.IsList l2 ys) (ex : xs[k]? = some x) (ey : ys[k]? = some y)
    (now : ∀ h', AfterL s.heap z TI TO i1 i2 l1 l2 k x y h' → Q (some (.ref s.heap.objs.size)) { s with heap := h' }) : wpAny (model prog w) A (pyNext (.ref z)) Q E s := by
  have isZ : s.TypeIs (.ref z) "zip" := ⟨_, hz, rfl⟩
  unfold pyNext
  refine wpAny_bind (wpAny_attempt (wpAny_callSpecial?_slot (name := Str.ofString "__next__") isZ F.slot_zip_next (wpAny_call_entry F.slot_zip_next isZ F.entry_zip_next ?_ (F.args_zip_next_1 _))))
  exact znl_item D hz hr pI pO u1 u2 t1 t2 ex ey fun h' q => wpAny_pure (now h' q)
theorem stop_znl {k : Nat} {xs : Array Value} {Q : Option Value → Shared → Prop} (hh : A.handled = none) (D : ZipApart z TI TO i1 i2 l1 l2) (hz : ZAt s.heap z TI TO r g) (hr : Out r) (pI : IsPair s.heap TI (.ref i1) (.ref i2)) (u1 : s.heap.IsListIter i1 l1 k) (t1 : s.heap.IsList l1 xs) (ex : xs[k]? = none)
    (now : ∀ h', (∀ c o, c ≠ z → c ≠ TO → c ≠ i1 → c ≠ i2 → s.heap.get? c = some o → h'.get? c = some o) → Q none { s with heap := h' }) : wpAny (model prog w) A (pyNext (.ref z)) Q E s := by
  have isZ : s.TypeIs (.ref z) "zip" := ⟨_, hz, rfl⟩
  unfold pyNext
  refine wpAny_bind (wpAny_attempt (wpAny_callSpecial?_slot (name := Str.ofString "__next__") isZ F.slot_zip_next (wpAny_call_entry F.slot_zip_next isZ F.entry_zip_next ?_ (F.args_zip_next_1 _))))
  refine znl_end (xs := xs) (ys := xs) (a := .none) (b := .none) hh D hz hr pI u1 t1 ex fun h' e stay he => ?_
  obtain ⟨o, e1, e2⟩ := he
  refine wpAny_bind (wpAny_isInstance (T := "StopIteration") (b := true) ⟨o, e1, e2⟩ isSubtype_stop (wpAny_pure (now _ stay)))
end
/-- two tuples of one length, their items in new pairs -/
def Itnl (K : PySem.W.Frag) (a b : Addr) : It where
  go i H := ∃ (xs ys : List V) (x y : V), SqL K H a xs ∧ SqL K H b ys ∧ xs[i]? = some x ∧ ys[i]? = some y
  yld i H v H' := ∃ (T : Addr) (x y : V), v = .ref T ∧ H T = none ∧ H' = upd H T (.tup [x, y]) ∧ (∀ xs, SqL K H a xs → xs[i]? = some x) ∧ ∀ ys, SqL K H b ys → ys[i]? = some y
  stop i H := ∃ xs : List V, SqL K H a xs ∧ xs.length ≤ i
def Znl (z TI TO i1 i2 a b : Addr) (i : Nat) (h : Heap) : Prop := (∃ r g, ZAt h z TI TO r g ∧ Out r) ∧ IsPair h TI (.ref i1) (.ref i2) ∧ (∃ x y, IsPair h TO x y) ∧ h.IsListIter i1 a i ∧ h.IsListIter i2 b i
theorem fiveL {z TI TO i1 i2 c : Addr} (h : c ∈ [z, TI, TO, i1, i2]) : c = z ∨ c = TI ∨ c = TO ∨ c = i1 ∨ c = i2 := by simpa using h
theorem turn_znl {P : Program} {w : World} {K : PySem.W.Frag} {nm : Str} {px : Pos} {a b z TI TO i1 i2 : Addr} (D : ZipApart z TI TO i1 i2 a b) : Turn P w K (.Name nm px) (Itnl K a b) [z, TI, TO, i1, i2] z (Znl z TI TO i1 i2 a b) := by
  refine ⟨by simp, ?_, ?_, ?_, ?_, ?_⟩
  · rintro i h ⟨⟨r, g, hz, _⟩, hI, ⟨x, y, hO⟩, ⟨o1, e1, _, d1⟩, ⟨o2, e2, _, d2⟩⟩ c hc
    rcases fiveL hc with rfl | rfl | rfl | rfl | rfl
    · exact ⟨_, hz, fun v q => nomatch q⟩
    · exact ⟨_, hI, fun v q => nomatch q⟩
    · exact ⟨_, hO, fun v q => nomatch q⟩
    · exact ⟨o1, e1, fun v q => by rw [d1] at q; cases q⟩
    · exact ⟨o2, e2, fun v q => by rw [d2] at q; cases q⟩
  · rintro i h h' ⟨⟨r, g, hz, hr⟩, hI, ⟨x, y, hO⟩, u1, u2⟩ k
    exact ⟨⟨r, g, k z (by simp) _ hz, hr⟩, k TI (by simp) _ hI, ⟨x, y, k TO (by simp) _ hO⟩, u1.at fun o q => k i1 (by simp) o q, u2.at fun o q => k i2 (by simp) o q⟩
  · intro X hP hw hK hc i pins s σ H E I free st hg
    subst hP hw hK
    obtain ⟨⟨r, g, hz, hr⟩, hI, ⟨x0, y0, hO⟩, u1, u2⟩ := st
    obtain ⟨xs, ys, x, y, qx, qy, hx, hy⟩ := hg
    obtain ⟨its, rv, p, _⟩ := I.list qx
    obtain ⟨its2, rv2, p2, _⟩ := I.list qy
    obtain ⟨v1, hv1, r1⟩ := rv.get hx
    obtain ⟨v2, hv2, r2⟩ := rv2.get hy
    refine next_znl D hz hr hI hO u1 u2 p.isList p2.isList (x := v1) (y := v2) (by simpa using hv1) (by simpa using hv2) fun h' ⟨zz, oo, n1, n2, pn, sz, stay⟩ => ?_
    refine ⟨_, rfl, wpAny_pure ?_⟩
    have new : ObjOk X.prog X.w (upd H s.heap.objs.size (.tup [x, y])) h' s.heap.objs.size (.tup [x, y]) := ⟨by show 2 ≤ sizeLine; decide, [v1, v2], .cons r1 (.cons r2 .nil), ⟨_, pn, rfl, _, rfl⟩⟩
    have I1 : Inv X pins σ (upd H s.heap.objs.size (.tup [x, y])) { s with heap := h' } :=
      I.turnedNew (t' := s.toks) (ch := [z, TI, TO, i1, i2]) (fun c o out q => stay c o (fun e => out (by simp [e])) (fun e => out (by simp [e])) (fun e => out (by simp [e])) (fun e => out (by simp [e])) q) free (Nat.le_refl _) new
    have hI' : IsPair h' TI (.ref i1) (.ref i2) := stay _ _ D.TIz D.TITO D.TIi1 D.TIi2 hI
    refine ⟨.ref s.heap.objs.size, _, I1, rfl, ⟨_, x, y, rfl, I.hok.fresh (Nat.le_refl _), rfl, fun l hl => by rw [I.list_inj hl qx]; exact hx, fun l hl => by rw [I.list_inj hl qy]; exact hy⟩, ⟨zz, hI', oo, n1, n2⟩, fun c hcm => ?_⟩
    have lt : c < s.heap.objs.size := by
      rcases fiveL hcm with rfl | rfl | rfl | rfl | rfl
      · exact Heap.lt_size hz
      · exact Heap.lt_size hI
      · exact Heap.lt_size hO
      · obtain ⟨_, e, _⟩ := u1
        exact Heap.lt_size e
      · obtain ⟨_, e, _⟩ := u2
        exact Heap.lt_size e
    rw [upd_ne (Nat.ne_of_lt lt)]
    exact (free c hcm).1
  · intro X hP hw hK hc i pins s σ H E I free st hg
    subst hP hw hK
    obtain ⟨⟨r, g, hz, hr⟩, hI, ⟨x0, y0, hO⟩, u1, u2⟩ := st
    obtain ⟨xs, qx, le⟩ := hg
    obtain ⟨its, rv, p, _⟩ := I.list qx
    have same := rv.length
    refine stop_znl (I.ok.hd hc) D hz hr hI u1 p.isList (by simp; omega) fun h' stay => ⟨rfl, I.turnedL (t' := s.toks) (ch := [z, TI, TO, i1, i2]) (fun c o out q => ?_) free⟩
    exact stay c o (fun e => out (by simp [e])) (fun e => out (by simp [e])) (fun e => out (by simp [e])) (fun e => out (by simp [e])) q
  · rintro A i s Q E ⟨⟨r, g, hz, _⟩, _⟩ h
    exact iter_zn hz h
def iZipNL (K : PySem.W.Frag) (ta : TA) : TI := fun σ H R => ta σ H fun vs H1 => ∃ (a b : Addr) (xs ys : List V), vs = [.ref a, .ref b] ∧ SqL K H1 a xs ∧ SqL K H1 b ys ∧ R (Itnl K a b) H1
theorem pi_zipNL {X : Cx} {e e2 : Expr} {ta : TA} {p pos px : Pos} {nm : Str} (hg : Gl X "zip") (hm : X.mg "zip" = none) (ha : PA X [e, e2] ta) (hs : starEach [e, e2] X.env = (false, eval e X.env) :: starEach [e2] X.env := by rfl)
    (hpl : (backTo pos (starEach [e2] X.env)).any (·.1) = false := by rfl) : PI X (.Name nm px) (.Call (.Name "zip" p) [e, e2] [] pos) (iZipNL X.K ta) := by
  constructor
  intro pins s σ H R I want
  refine Call_ (ld_blt I hg hm PyProof.Rows.boot_zip (PyProof.Rows.callWith_type1 (thn (ha.run pos pins s σ H _ I want) ?_) hs hpl))
  rintro us s1 ⟨vs, H1, J, rv, a, b, xs, ys, rfl, qx, qy, now⟩
  obtain ⟨u1, u2, rfl, r1, r2⟩ := vals2 rv
  cases r1
  cases r2
  obtain ⟨its, rx, p1, _⟩ := J.list qx
  obtain ⟨its2, ry, p2, _⟩ := J.list qy
  obtain ⟨o1, ho1, _⟩ := id p1.isList
  obtain ⟨o2, ho2, _⟩ := id p2.isList
  refine call_zip_2 p1.isList p2.isList fun h' hz hI hO v1 v2 size keep => ?_
  have hz' : ZAt h' (s1.heap.objs.size + 4) (s1.heap.objs.size + 2) (s1.heap.objs.size + 3) .none false := hz
  refine iter_zn hz' ?_
  have J2 : Inv X pins σ H1 { s1 with heap := h' } := J.kept (t' := s1.toks) keep
  refine ⟨s1.heap.objs.size + 4, [s1.heap.objs.size + 4, s1.heap.objs.size + 2, s1.heap.objs.size + 3, s1.heap.objs.size, s1.heap.objs.size + 1], _, _, H1, rfl, J2, turn_znl (PySem.W.ktu_apart s1.heap.objs.size a b (Heap.lt_size ho1) (Heap.lt_size ho2)), ⟨⟨_, _, hz', .inl rfl⟩, hI, ⟨_, _, hO⟩, v1, v2⟩, fun c hc => ?_, now⟩
  have le : s1.heap.objs.size ≤ c := by
    rcases fiveL hc with rfl | rfl | rfl | rfl | rfl <;> omega
  exact J.fpOk le (J.hok.fresh le)
theorem walk_znl {K : PySem.W.Frag} {a b : Addr} {xs ys : List V} (same : xs.length = ys.length) : Walk (Itnl K a b) xs.length (fun H => SqL K H a xs ∧ SqL K H b ys) (YPair (fun i => xs[i]?) (fun i => ys[i]?)) := by
  refine ⟨fun i H lt ⟨h1, h2⟩ => ⟨xs, ys, xs[i], ys[i]'(by omega), h1, h2, List.getElem?_eq_getElem lt, List.getElem?_eq_getElem (by omega)⟩, fun H ⟨h1, _⟩ => ⟨xs, h1, Nat.le_refl _⟩, ?_⟩
  rintro i H v H' lt ⟨h1, h2⟩ ⟨T, x, y, rfl, nT, rfl, q1, q2⟩
  exact ⟨T, x, y, rfl, nT, rfl, q1 xs h1, q2 ys h2⟩
end Rt
namespace L15
open PySem PySem.Spec L2 Rt Rs Ld
open PyProof.Rows hiding St

abbrev sEq : Stmt := inClass (top 15) 6
abbrev sNe : Stmt := inClass (top 15) 7
theorem ld_ins {H : Hp} {C a : Addr} {L : LP} {F : Int → Int} (h : LdAt H C a L F) : ∃ dx fs, H a = some (.ins C dx fs) ∧ fs.lookup ("start" : Str) = none ∧ fs.lookup ("end" : Str) = none ∧ fs.lookup ("period" : Str) = none ∧ fs.lookup ("row" : Str) = none ∧ fs.lookup ("at" : Str) = none := by
  obtain ⟨dx, sa, ea, ra, h1, _⟩ := h.ex
  exact ⟨dx, _, h1, look_no (by decide +kernel) (by decide +kernel) (by decide +kernel) (by decide +kernel), look_no (by decide +kernel) (by decide +kernel) (by decide +kernel) (by decide +kernel), look_no (by decide +kernel) (by decide +kernel) (by decide +kernel) (by decide +kernel), look_no (by decide +kernel) (by decide +kernel) (by decide +kernel) (by decide +kernel), look_no (by decide +kernel) (by decide +kernel) (by decide +kernel) (by decide +kernel)⟩
theorem mk_ok {H1 : Hp} {C x dx p b e : Addr} {L : LP} {F : Int → Int} {Q : VK} (nx : H1 x = none) (ndx : H1 dx = none) (ne : dx ≠ x) (hp : H1 p = some (.lst ((rowOf L F).map V.int))) (hb : H1 b = some (.tup [.int L.f, .int L.s])) (he : H1 e = some (.tup [.int L.g, .int L.r])) (ok : LOk L F)
    (k : ∀ H', Same H1 H' → LdAt H' C x L F → Q (.ref x) H') : spInit C [.ref x, .ref b, .ref e, .int L.n, .ref p] (upd (upd H1 dx (.own x)) x (.ins C dx [])) (fun v H2 => v = .non ∧ Q (.ref x) H2) E0 := by
  have sm : Same H1 (upd (upd H1 dx (.own x)) x (.ins C dx [])) := (same_new ndx).trans (same_new (by rw [upd_ne ne.symm]; exact nx))
  exact ⟨x, dx, p, b, e, L, F, rfl, upd_same, sm _ _ hp, sm _ _ hb, sm _ _ he, ok, fun H' b' ld' => ⟨rfl, k H' (fun y u q => b' y u (sm _ _ q) (ne_of_none q nx)) ld'⟩⟩
def eqL (L M : LP) (F G : Int → Int) : Bool := (decide (L.s = M.s) && decide ((M.f - L.f) % L.s = 0)) && (decide (L.r = M.r) && decide ((M.g - L.g) % L.r = 0)) && (decide (L.n = M.n) && decide (rowOf L F = rowOf M G))
theorem eqv_tup (xs ys : List Int) : PyData.eqv (.tuple (xs.map PyData.int)) (.tuple (ys.map PyData.int)) = decide (xs = ys) := by
  have h := eqvAll_ints xs ys
  simp only [PyData.eqv]
  exact h
theorem shaped_tup (ks : List Int) : SeqAt.shaped (.tuple (ks.map PyData.int)) = true := by
  unfold SeqAt.shaped
  simp [PyData.canLay0, PyData.depth, lay_ints, depth_ints]
theorem eqL_true {L M : LP} {F G : Int → Int} (s0 : 0 < L.s) (h1 : M.s = L.s) (h2 : (M.f - L.f) % L.s = 0) (h3 : M.r = L.r) (h4 : (M.g - L.g) % L.r = 0) (h5 : M.n = L.n) (h6 : ∀ v, v ∈ nums L.f L.s L.n → F v = G v) : eqL L M F G = true := by
  unfold eqL
  rw [h1, h3, h5, decide_eq_true rfl, decide_eq_true h2, decide_eq_true rfl, decide_eq_true h4, decide_eq_true rfl]
  have e : rowOf L F = rowOf M G := by
    unfold rowOf
    rw [h1, h5, nums_alike s0 h2]
    exact List.map_congr_left h6
  rw [decide_eq_true e]
  rfl
theorem eqL_period {L M : LP} {F G : Int → Int} (h : L.n ≠ M.n) : eqL L M F G = false := by
  unfold eqL
  rw [decide_eq_false h]
  simp
def spEqM (C : Addr) : Sp := fun vs H Q _ => ∃ (a b : Addr) (L M : LP) (F G : Int → Int), vs = [.ref a, .ref b] ∧ LdAt H C a L F ∧ LdAt H C b M G ∧ 0 < L.s ∧ 0 < L.r ∧ Q (.bl (eqL L M F G)) H
def spNeM (C : Addr) : Sp := fun vs H Q _ => ∃ (a b : Addr) (L M : LP) (F G : Int → Int), vs = [.ref a, .ref b] ∧ LdAt H C a L F ∧ LdAt H C b M G ∧ 0 < L.s ∧ 0 < L.r ∧ Q (.bl (!eqL L M F G)) H
abbrev maxF (F G : Int → Int) : Int → Int := fun v => if G v > F v then G v else F v
structure Like (L M : LP) : Prop where
  s : M.s = L.s
  r : M.r = L.r
  n : M.n = L.n
  f : (M.f - L.f) % L.s = 0
  g : (M.g - L.g) % L.r = 0
theorem sem_g {L : LP} {g : Int} {F : Int → Int} (h : Sem L.f L.s L.g L.r L.n F) (al : (L.g - g) % L.r = 0) : Sem L.f L.s g L.r L.n F := by
  refine ⟨h.s0, h.r0, h.n0, h.sd, h.rd, fun v hv => ?_, h.mono, h.per⟩
  obtain ⟨a, ha⟩ := Int.dvd_of_emod_eq_zero (h.on v hv)
  obtain ⟨b, hb⟩ := Int.dvd_of_emod_eq_zero al
  rw [show F v - g = L.r * (a + b) by rw [Int.mul_add]; omega]
  exact Int.mul_emod_right _ _
theorem alike_sym {s a b : Int} (h : (a - b) % s = 0) : (b - a) % s = 0 := by
  obtain ⟨q, hq⟩ := Int.dvd_of_emod_eq_zero h
  rw [show b - a = s * (-q) by rw [Int.mul_neg]; omega]
  exact Int.mul_emod_right _ _
theorem Like.sem {L M : LP} {G : Int → Int} (h : Like L M) (k : Sem M.f M.s M.g M.r M.n G) : Sem L.f L.s L.g L.r L.n G := by
  have k1 := sem_g (L := M) (g := L.g) k (by rw [h.r]; exact h.g)
  rw [h.s, h.r, h.n] at k1
  exact k1.alike (alike_sym h.f)
theorem Like.later {L M : LP} {F G : Int → Int} (h : Like L M) (a : LOk L F) (b : LOk M G) : LOk L (maxF F G) := ⟨a.sem.max (h.sem b.sem), a.s1, a.r1, a.n1⟩
abbrev thenL (L M : LP) : LP := ⟨L.f, L.s, M.g, M.r, L.n⟩
theorem LOk.then {L M : LP} {F G : Int → Int} (a : LOk L F) (b : LOk M G) (hn : M.n = L.n) (hs : M.s = L.r) (hf : (M.f - L.g) % L.r = 0) : LOk (thenL L M) (fun v => G (F v)) := by
  have k := b.sem
  rw [hn, hs] at k
  exact ⟨a.sem.comp (s' := 0) k (alike_sym hf), a.s1, b.r1, a.n1⟩
abbrev timesL (L : LP) (t : Nat) : LP := ⟨L.f, L.s, L.g, L.r, t * L.n⟩
theorem LOk.times {L : LP} {F : Int → Int} (a : LOk L F) {t : Nat} (t0 : 0 < t) (le : (t : Int) * L.n ≤ 3600) : LOk (timesL L t) F := ⟨a.sem.times t0, a.s1, a.r1, le⟩
def spLater (C : Addr) : Sp := fun vs H Q _ => ∃ (a b : Addr) (L M : LP) (F G : Int → Int), vs = [.ref a, .ref b] ∧ LdAt H C a L F ∧ LdAt H C b M G ∧ LOk L F ∧ LOk M G ∧ Like L M ∧ ∀ x H', Same H H' → LdAt H' C x L (maxF F G) → Q (.ref x) H'
def spAnd (C : Addr) : Sp := fun vs H Q _ => ∃ (a b : Addr) (L M : LP) (F G : Int → Int), vs = [.ref a, .ref b] ∧ LdAt H C a L F ∧ LdAt H C b M G ∧ LOk L F ∧ LOk M G ∧ M.n = L.n ∧ M.s = L.r ∧ (M.f - L.g) % L.r = 0 ∧ ∀ x H', Same H H' → LdAt H' C x (thenL L M) (fun v => G (F v)) → Q (.ref x) H'
def spWith (C : Addr) : Sp := fun vs H Q _ => ∃ (a : Addr) (t : Nat) (L : LP) (F : Int → Int), vs = [.ref a, .int t] ∧ LdAt H C a L F ∧ LOk L F ∧ 0 < t ∧ (t : Int) * L.n ≤ 3600 ∧ ∀ x H', Same H H' → LdAt H' C x (timesL L t) F → Q (.ref x) H'
def spJumps (C : Addr) : Sp := fun vs H Q _ => ∃ (a : Addr) (L : LP) (F : Int → Int), vs = [.ref a] ∧ LdAt H C a L F ∧ LOk L F ∧ ∀ p H', H p = none → Same H H' → H' p = some (.lst ((jumpsOf L.f L.s L.n F).map V.int)) → Q (.ref p) H'
structure MethL (P : Program) (w : World) (K : PySem.W.Frag) (mg : Str → Option Value) (base : Heap) (C : Addr) : Prop where
  start : Md P w K mg base 1 C "start" (spMStart C)
  end_ : Md P w K mg base 1 C "end" (spMEnd C)
  period : Md P w K mg base 1 C "period" (spMPeriod C)
  row : Md P w K mg base 1 C "row" (spMRow C)
  at_ : Md P w K mg base 3 C "at" (spMAt C)
section
variable {P : Program} {w : World} {K : PySem.W.Frag} {mg : Str → Option Value} {base : Heap} {f C : Addr} {fd : FuncData}

theorem scEq : FnScope ["self", "other"] ["self", "other"] (defScope sEq) := ⟨rfl, rfl, rfl, by decide +kernel, rfl, by decide +kernel, by decide +kernel⟩
theorem ok_eq (F : Fun K "__eq__" "Lead.__eq__" sEq f fd) (T : Wds mg) (cn : ClsL K C) (hC : mg "Lead" = some (.ref C)) (ic : C8.InsC K C) (al : Cf P w K mg base 3 "are_alike_clocks" spAlike) : FnOk P w K mg base CX0 4 f fd ["self", "other"] (spEqM C) := by
  refine F.ok scEq (fun vs H Q E h => ?_) (fun cdv A outer s H vs Q E hr h => ?_)
  · obtain ⟨a, b, L, M, F, G, rfl, _⟩ := h
    rfl
  · obtain ⟨a, b, L, M, F, G, rfl, la, lb, s0, r0, k⟩ := h
    have hu64 := hr.units
    refine ⟨_, (pss_cons (ps_if (pt_not (pt_val (pe_callB call_isi (by rfl) T.zisinstance (by decide +kernel) (pa_cons (pv 1) (pa_cons (pe_glob (v := .ref _) (by rfl) hC rfl) pa_nil))))) (pss_one (ps_ret pe_bl)) pss_nil)
      (pss_cons (ps_if (PW.pt (pw_or (pt_not (pt_val (pe_f al hr (by decide) (by rfl) (pa_cons (pe_fld (pv 0) (by rfl)) (pa_cons (pe_fld (pv 1) (by rfl)) pa_nil))))) (pw_or1 (pt_not (pt_val (pe_f al hr (by decide) (by rfl) (pa_cons (pe_fld (pv 0) (by rfl)) (pa_cons (pe_fld (pv 1) (by rfl)) pa_nil)))))))) (pss_one (ps_ret pe_bl)) pss_nil)
      (pss_one (ps_ret (pe_and (pe_cmpR op_eq (pe_fld (pv 0) (by rfl)) (pe_fld (pv 1) (by rfl)) (nomark _)) (pe_one (pe_cmpR (op_eqD hu64) (pe_fld (pv 0) (by rfl)) (pe_fld (pv 1) (by rfl)) (nomark _)))))))), ?_⟩
    obtain ⟨dx, sa, ea, ra, h1, h2, h3, h4⟩ := la.ex
    obtain ⟨dy, sb, eb, rb, g1, g2, g3, g4⟩ := lb.ex
    refine ⟨_, rfl, .ref b, .ref C, .ref C, .ref C, true, rfl, .own C, .base (.ins g1 ic.cl ic.ha ic.hn ic.htk ic.hm), ic.me, true, rfl, iteF ?_⟩
    unfold eqL at k
    refine ⟨_, rfl, a, C, dx, _, _, rfl, h1, cn.cls, cn.n1, look_s, _, rfl, b, C, dy, _, _, rfl, g1, cn.cls, cn.n1, look_s, sa, sb, _, _, _, _, rfl, h2, g2, fun _ => s0, _, rfl, ?_⟩
    cases e1 : (decide (L.s = M.s) && decide ((M.f - L.f) % L.s = 0)) with
    | false =>
      rw [e1] at k
      exact iteT (iteT k)
    | true =>
      rw [e1] at k
      refine iteF ?_
      refine ⟨_, rfl, a, C, dx, _, _, rfl, h1, cn.cls, cn.n2, look_e, _, rfl, b, C, dy, _, _, rfl, g1, cn.cls, cn.n2, look_e, ea, eb, _, _, _, _, rfl, h3, g3, fun _ => r0, _, rfl, ?_⟩
      cases e2 : (decide (L.r = M.r) && decide ((M.g - L.g) % L.r = 0)) with
      | false =>
        rw [e2] at k
        exact iteT k
      | true =>
        rw [e2] at k
        refine iteF ?_
        refine ⟨_, rfl, a, C, dx, _, _, rfl, h1, cn.cls, cn.n3, look_n, _, rfl, b, C, dy, _, _, rfl, g1, cn.cls, cn.n3, look_n, rfl, ?_⟩
        rw [dec_V]
        cases e3 : decide (L.n = M.n) with
        | false =>
          rw [e3] at k
          exact ⟨_, rfl, iteF k⟩
        | true =>
          rw [e3] at k
          refine ⟨_, rfl, iteT ?_⟩
          refine ⟨_, rfl, a, C, dx, _, _, rfl, h1, cn.cls, cn.n4, look_w, _, rfl, b, C, dy, _, _, rfl, g1, cn.cls, cn.n4, look_w, ?_⟩
          refine ⟨.tuple ((rowOf L F).map PyData.int), .tuple ((rowOf M G).map PyData.int), .tup (SqT.of h4) (dpAll_ints _), .tup (SqT.of g4) (dpAll_ints _), shaped_tup _, shaped_tup _, ?_⟩
          rw [eqv_tup]
          exact k
theorem scNe : FnScope ["self", "other"] ["self", "other"] (defScope sNe) := ⟨rfl, rfl, rfl, by decide +kernel, rfl, by decide +kernel, by decide +kernel⟩
theorem ok_ne (F : Fun K "__ne__" "Lead.__ne__" sNe f fd) (mEq : Md P w K mg base 4 C "__eq__" (spEqM C)) : FnOk P w K mg base CX0 5 f fd ["self", "other"] (spNeM C) := by
  refine F.ok scNe (fun vs H Q E h => ?_) (fun cdv A outer s H vs Q E hr h => ?_)
  · obtain ⟨a, b, L, M, F, G, rfl, _⟩ := h
    rfl
  · obtain ⟨a, b, L, M, F, G, rfl, la, lb, s0, r0, k⟩ := h
    refine ⟨_, (pss_one (ps_ret (pe_not (pe_cmpR (op_ownEq mEq hr (by decide)) (pv 0) (pv 1) (nomark _))))), ?_⟩
    obtain ⟨dx, sa, ea, ra, h1, h2, h3, h4⟩ := la.ex
    obtain ⟨dy, sb, eb, rb, g1, g2, g3, g4⟩ := lb.ex
    exact ⟨_, rfl, _, rfl, a, b, dx, dy, _, _, rfl, rfl, h1, g1, a, b, L, M, F, G, rfl, la, lb, s0, r0, _, rfl, _, rfl, k⟩
end
end L15
namespace Rt
open PySem PySem.Spec L2
open PyProof.Rows hiding St
/-! ### a comprehension with two for, over any walks -/
section
variable {J J1 : It} {n n1 : Nat} {G G1 : Hp → Prop} {Y Y1 : Nat → Hp → V → Hp → Prop}
theorem lc2_it (wk : Walk J n G Y) {g g1 : TG} {tt tt1 : TT} {wi1 : TI} {te : TE} {vs vs1 : List Nat} {σ : L2.St} {H1 : Hp} {D : Addr} {Qd : Hp → Prop} (Pv : Nat → Hp → Prop) (start : Pv 0 (upd H1 D (.lst []))) (good : ∀ i H, i ≤ n → Pv i H → G H)
    (turn : ∀ i x H H', i < n → Pv i H → Y i H x H' → g x (wipe σ vs) H' fun σ2 H2 => wipe σ2 vs = wipe σ vs ∧ tt σ2 H2 fun b H3 =>
      if b = true then wi1 σ2 H3 fun J1 H4 => ∃ W1 : Nat → Nat → Hp → Prop, (∃ m, W1 0 m H4) ∧ ∀ j k H, W1 j k H →
        (J1.stop j H ∧ Pv (i + 1) H) ∨ (J1.go j H ∧ ∃ Nx1 : Hp → Prop, (∀ H', Nx1 H' → ∃ k', k' < k ∧ W1 (j + 1) k' H') ∧ ∀ x H', J1.yld j H x H' → g1 x (wipe σ2 vs1) H' fun σ3 H5 => wipe σ3 vs1 = wipe σ2 vs1 ∧ tt1 σ3 H5 fun b H6 =>
          if b = true then te σ3 H6 fun y H7 => ∃ acc, H7 D = some (.lst acc) ∧ acc.length < sizeLine ∧ Nx1 (upd H7 D (.lst (acc ++ [y]))) else Nx1 H6)
      else Pv (i + 1) H3) (fin : ∀ H, Pv n H → Qd H) :
    ∃ W : Nat → Nat → Hp → Prop, (∃ m, W 0 m (upd H1 D (.lst []))) ∧ ∀ i m H, W i m H →
      (J.stop i H ∧ Qd H) ∨ (J.go i H ∧ ∃ Nx : Hp → Prop, (∀ H', Nx H' → ∃ m', m' < m ∧ W (i + 1) m' H') ∧ ∀ x H', J.yld i H x H' → g x (wipe σ vs) H' fun σ2 H2 => wipe σ2 vs = wipe σ vs ∧ tt σ2 H2 fun b H3 =>
        if b = true then wi1 σ2 H3 fun J1 H4 => ∃ W1 : Nat → Nat → Hp → Prop, (∃ m, W1 0 m H4) ∧ ∀ j k H, W1 j k H →
          (J1.stop j H ∧ Nx H) ∨ (J1.go j H ∧ ∃ Nx1 : Hp → Prop, (∀ H', Nx1 H' → ∃ k', k' < k ∧ W1 (j + 1) k' H') ∧ ∀ x H', J1.yld j H x H' → g1 x (wipe σ2 vs1) H' fun σ3 H5 => wipe σ3 vs1 = wipe σ2 vs1 ∧ tt1 σ3 H5 fun b H6 =>
            if b = true then te σ3 H6 fun y H7 => ∃ acc, H7 D = some (.lst acc) ∧ acc.length < sizeLine ∧ Nx1 (upd H7 D (.lst (acc ++ [y]))) else Nx1 H6)
        else Nx H3) := by
  refine ⟨fun i m H => m + i = n ∧ Pv i H, ⟨n, rfl, start⟩, fun i m H ⟨e, p⟩ => ?_⟩
  have q := good i H (by omega) p
  rcases Nat.lt_or_ge i n with lt | ge
  · exact .inr ⟨wk.goes i H lt q, Pv (i + 1), fun H' p' => ⟨m - 1, by omega, by omega, p'⟩, fun x H' y => turn i x H H' lt p (wk.yields i H x H' lt q y)⟩
  · obtain rfl : i = n := by omega
    exact .inl ⟨wk.stops H q, fin H p⟩
theorem in_it (wk : Walk J1 n1 G1 Y1) {g1 : TG} {tt1 : TT} {te : TE} {vs1 : List Nat} {σ2 : L2.St} {H4 : Hp} {D : Addr} {Nx : Hp → Prop} (Pv : Nat → Hp → Prop) (start : Pv 0 H4) (good : ∀ i H, i ≤ n1 → Pv i H → G1 H)
    (turn : ∀ i x H H', i < n1 → Pv i H → Y1 i H x H' → g1 x (wipe σ2 vs1) H' fun σ3 H5 => wipe σ3 vs1 = wipe σ2 vs1 ∧ tt1 σ3 H5 fun b H6 =>
      if b = true then te σ3 H6 fun y H7 => ∃ acc, H7 D = some (.lst acc) ∧ acc.length < sizeLine ∧ Pv (i + 1) (upd H7 D (.lst (acc ++ [y]))) else Pv (i + 1) H6) (fin : ∀ H, Pv n1 H → Nx H) :
    ∃ W1 : Nat → Nat → Hp → Prop, (∃ m, W1 0 m H4) ∧ ∀ j k H, W1 j k H →
      (J1.stop j H ∧ Nx H) ∨ (J1.go j H ∧ ∃ Nx1 : Hp → Prop, (∀ H', Nx1 H' → ∃ k', k' < k ∧ W1 (j + 1) k' H') ∧ ∀ x H', J1.yld j H x H' → g1 x (wipe σ2 vs1) H' fun σ3 H5 => wipe σ3 vs1 = wipe σ2 vs1 ∧ tt1 σ3 H5 fun b H6 =>
        if b = true then te σ3 H6 fun y H7 => ∃ acc, H7 D = some (.lst acc) ∧ acc.length < sizeLine ∧ Nx1 (upd H7 D (.lst (acc ++ [y]))) else Nx1 H6) := by
  refine ⟨fun i m H => m + i = n1 ∧ Pv i H, ⟨n1, rfl, start⟩, fun i m H ⟨e, p⟩ => ?_⟩
  have q := good i H (by omega) p
  rcases Nat.lt_or_ge i n1 with lt | ge
  · exact .inr ⟨wk.goes i H lt q, Pv (i + 1), fun H' p' => ⟨m - 1, by omega, by omega, p'⟩, fun x H' y => turn i x H H' lt p (wk.yields i H x H' lt q y)⟩
  · obtain rfl : i = n1 := by omega
    exact .inl ⟨wk.stops H q, fin H p⟩
end
theorem pi_listK {X : Cx} {K : PySem.W.Frag} {tg l : Expr} {tl : TE} (hK : X.K = K) (hl : PE X l tl) : PI X tg l (iList K tl) := by
  subst hK
  exact pi_list hl
/-! ### dicts that are written with different keys -/
theorem putK_new : ∀ {kvs : List (Key × V)} {k : Key} {v : V}, (∀ x, x ∈ kvs → x.1 ≠ k) → putK kvs k v = kvs ++ [(k, v)] := fun {kvs k v} h => by
  unfold putK
  rw [if_neg]
  intro z
  obtain ⟨x, hx, e⟩ := List.any_eq_true.mp z
  exact h x hx (of_decide_eq_true e)
theorem merge_app : ∀ (more kvs : List (Key × V)), (∀ x, x ∈ more → ∀ y, y ∈ kvs → y.1 ≠ x.1) → (more.map (·.1)).Nodup → mergeK kvs more = kvs ++ more
  | [], kvs, _, _ => by unfold mergeK; simp
  | x :: more, kvs, h, nd => by
    have nd' := List.nodup_cons.mp nd
    have e : mergeK kvs (x :: more) = mergeK (putK kvs x.1 x.2) more := rfl
    rw [e, putK_new (h x List.mem_cons_self), merge_app more _ (fun z hz y hy => ?_) nd'.2, List.append_assoc]
    · rfl
    · rcases List.mem_append.mp hy with q | q
      · exact h z (List.mem_cons_of_mem _ hz) y q
      · cases List.mem_singleton.mp q
        intro e2
        exact nd'.1 (List.mem_map.mpr ⟨z, hz, e2.symm⟩)
theorem merge_keys {kvs : List (Key × V)} (nd : (kvs.map (·.1)).Nodup) : mergeK [] kvs = kvs := by
  rw [merge_app kvs [] (fun _ _ _ h => nomatch h) nd]
  rfl
end Rt
namespace Rt
open PySem PySem.Spec L2
open PyProof.Rows hiding St
/-! ### i if c else j, of two ints -/
def tIfI (t : TT) (i j : Int) : TE := fun σ H Q => t σ H fun c H1 => Q (.int (if c = true then i else j)) H1
theorem pe_ifInt {X : Cx} {c : Expr} {tA : TT} {i j : Int} {k1 k2 : Nat} {q1 q2 pos : Pos} (hc : PT X c tA) : PE X (.IfExp c (.Constant (.int i) k1 q1) (.Constant (.int j) k2 q2) pos) (tIfI tA i j) := by
  have h := pe_ifExp (pos := pos) hc (pe_int (X := X) (i := i) (j := k1) (pos := q1)) (pe_int (X := X) (i := j) (j := k2) (pos := q2))
  have e : tIfI tA i j = tIf tA (tC (V.int i)) (tC (V.int j)) := by
    funext σ H Q
    unfold tIfI tIf tC
    congr 1
    funext c H1
    cases c <;> rfl
  rw [e]
  exact h
end Rt
namespace Rt
open PySem PySem.Spec L2
open PyProof.Rows hiding St
/-! ### slots, written out anew -/
theorem name_step {i : Nat} {v : V} {σ σ' : L2.St} {H : Hp} {Q : L2.St → Hp → Prop} (h : σ.set i (some v) = σ') (k : Q σ' H) : gName i v σ H Q := by
  subst h
  exact k
end Rt
namespace L15
open PySem PySem.Spec L2 Rt Rs Ld
open PyProof.Rows hiding St

theorem big9000 {n : Nat} (h : n ≤ 9000) : n < sizeLine := by
  rw [sizeLine_eq]
  omega
end L15
namespace Ld
open Rs
theorem upv_least {f s x z : Int} (h : 0 < s) (le : x ≤ z) (on : (z - f) % s = 0) : upv f s x ≤ z := Rise.upc_least h le on
theorem upv_mono {f s x y : Int} (h : 0 < s) (le : x ≤ y) : upv f s x ≤ upv f s y := upv_least h (Int.le_trans le (upv_le h)) (upv_on f s y)
theorem upv_add {f s x n : Int} (h : 0 < s) (d : s ∣ n) : upv f s (x + n) = upv f s x + n := by
  have a : upv f s (x + n) ≤ upv f s x + n := upv_least h (by have := upv_le (f := f) (x := x) h; omega) (on_add d (upv_on f s x))
  have b : upv f s x ≤ upv f s (x + n) + -n := upv_least h (by have := upv_le (f := f) (x := x + n) h; omega) (on_add (Int.dvd_neg.mpr d) (upv_on f s (x + n)))
  omega
/-- rows of the first kind: the lead of a rule -/
theorem sem_up {f s g r n c : Int} (s0 : 0 < s) (r0 : 0 < r) (n0 : 0 < n) (sd : s ∣ n) (rd : r ∣ n) : Sem f s g r n (fun v => upv g r (v + c)) :=
  ⟨s0, r0, n0, sd, rd, fun v _ => upv_on _ _ _, fun v u _ _ le => upv_mono r0 (by omega), fun v _ => by
    show upv g r (v + n + c) = upv g r (v + c) + n
    rw [show v + n + c = v + c + n by omega]
    exact upv_add r0 rd⟩
theorem floor_mono {n v u : Int} (n0 : 0 < n) (le : v ≤ u) : v - v % n ≤ u - u % n := by
  have a := Int.emod_add_mul_ediv v n
  have b := Int.emod_add_mul_ediv u n
  have q : v / n ≤ u / n := Int.ediv_le_ediv n0 le
  have m : n * (v / n) ≤ n * (u / n) := Int.mul_le_mul_of_nonneg_left q (by omega)
  omega
/-- rows of the second kind: one number -/
theorem sem_flat {f s g r n c : Int} (s0 : 0 < s) (r0 : 0 < r) (n0 : 0 < n) (sd : s ∣ n) (rd : r ∣ n) (hc : (c - g) % r = 0) : Sem f s g r n (fun v => c + (v - v % n)) := by
  refine ⟨s0, r0, n0, sd, rd, fun v _ => ?_, fun v u _ _ le => ?_, fun v _ => ?_⟩
  · show (c + (v - v % n) - g) % r = 0
    have a := Int.emod_add_mul_ediv v n
    rw [show v - v % n = v / n * n by rw [Int.mul_comm]; omega]
    exact on_mul rd hc
  · show c + (v - v % n) ≤ c + (u - u % n)
    have := floor_mono n0 le
    omega
  · show c + (v + n - (v + n) % n) = c + (v - v % n) + n
    rw [Int.add_emod_right]
    omega
/-- rows of any kind -/
structure Rok (f s g r n : Int) (row : List Int) : Prop where
  s0 : 0 < s
  r0 : 0 < r
  n0 : 0 < n
  sd : s ∣ n
  rd : r ∣ n
  len : row.length = (n / s).toNat
  on : ∀ x, x ∈ row → (x - g) % r = 0
  mono : row.Pairwise (· ≤ ·)
  top : ∀ x y, x ∈ row → y ∈ row → y ≤ x + n
theorem pairwise_get {l : List Int} (h : l.Pairwise (· ≤ ·)) {i j : Nat} (hj : j < l.length) (le : i ≤ j) : l[i]'(by omega) ≤ l[j] := by
  rcases Nat.lt_or_eq_of_le le with lt | rfl
  · exact List.pairwise_iff_getElem.mp h i j (by omega) hj lt
  · exact Int.le_refl _
theorem place_of {f s n v : Int} (s0 : 0 < s) (n0 : 0 < n) (sd : s ∣ n) (hv : (v - f) % s = 0) : ∃ i : Nat, i < (n / s).toNat ∧ v % n / s = (i : Int) ∧ v % n = f % s + (i : Nat) * s := by
  have m0 := Int.emod_nonneg v (show n ≠ 0 by omega)
  have m1 := Int.emod_lt_of_pos v n0
  obtain ⟨i, hi, ei⟩ := List.getElem_of_mem ((mem_nums s0 sd).mpr ⟨m0, m1, on_rest sd hv⟩)
  have hi' : i < (n / s).toNat := by rw [nums_len] at hi; exact hi
  have at_ := nums_at (f := f) hi'
  rw [List.getElem?_eq_getElem hi, ei] at at_
  have ev : v % n = f % s + (i : Int) * s := Option.some.inj at_
  have r0 := Int.emod_nonneg f (show s ≠ 0 by omega)
  have r1 := Int.emod_lt_of_pos f s0
  refine ⟨i, hi', ?_, ev⟩
  rw [ev, Int.add_mul_ediv_right _ _ (by omega), Int.ediv_eq_zero_of_lt r0 r1]
  omega
theorem Rok.val {f s g r n : Int} {row : List Int} (h : Rok f s g r n row) {v : Int} (hv : (v - f) % s = 0) : ∃ (i : Nat) (hi : i < row.length), v % n = f % s + (i : Nat) * s ∧ valL s n row v = row[i] + (v - v % n) := by
  obtain ⟨i, hi, e1, e2⟩ := place_of h.s0 h.n0 h.sd hv
  have hi' : i < row.length := by rw [h.len]; exact hi
  refine ⟨i, hi', e2, ?_⟩
  unfold valL
  rw [e1, Int.toNat_natCast, List.getD_eq_getElem?_getD, List.getElem?_eq_getElem hi']
  rfl
theorem Rok.sem {f s g r n : Int} {row : List Int} (h : Rok f s g r n row) : Sem f s g r n (valL s n row) ∧ (nums f s n).map (valL s n row) = row := by
  have n0 := h.n0
  have s0 := h.s0
  refine ⟨⟨h.s0, h.r0, h.n0, h.sd, h.rd, fun v hv => ?_, fun v u hv hu le => ?_, fun v hv => ?_⟩, ?_⟩
  · obtain ⟨i, hi, _, e⟩ := h.val hv
    rw [e]
    have a := Int.emod_add_mul_ediv v n
    rw [show v - v % n = v / n * n by rw [Int.mul_comm]; omega]
    exact on_mul h.rd (h.on _ (List.getElem_mem hi))
  · obtain ⟨i, hi, ei, e⟩ := h.val hv
    obtain ⟨j, hj, ej, e'⟩ := h.val hu
    rw [e, e']
    have a := Int.emod_add_mul_ediv v n
    have b := Int.emod_add_mul_ediv u n
    have q : v / n ≤ u / n := Int.ediv_le_ediv n0 le
    rcases Int.lt_or_eq_of_le q with lt | eq
    · have m : n * (v / n + 1) ≤ n * (u / n) := Int.mul_le_mul_of_nonneg_left (by omega) (by omega)
      rw [Int.mul_add, Int.mul_one] at m
      have := h.top _ _ (List.getElem_mem hj) (List.getElem_mem hi)
      omega
    · rw [eq] at a
      have le' : v % n ≤ u % n := by omega
      have ij : i ≤ j := by
        rcases Nat.lt_or_ge j i with z | z
        · have : ((j : Int) + 1) * s ≤ (i : Int) * s := Int.mul_le_mul_of_nonneg_right (by omega) (by omega)
          rw [Int.add_mul, Int.one_mul] at this
          omega
        · exact z
      have := pairwise_get h.mono hj ij
      omega
  · obtain ⟨i, hi, ei, e⟩ := h.val hv
    obtain ⟨j, hj, ej, e'⟩ := h.val (on_add h.sd hv)
    rw [e, e']
    rw [Int.add_emod_right] at ej e' ⊢
    have ij : i = j := by
      have : (i : Int) * s = (j : Int) * s := by omega
      have := Int.eq_of_mul_eq_mul_right (show s ≠ 0 by omega) this
      omega
    subst ij
    omega
  · refine List.ext_getElem (by rw [List.length_map, nums_len, h.len]) fun i h1 h2 => ?_
    rw [List.getElem_map]
    rw [List.length_map, nums_len] at h1
    have at_ := nums_at (f := f) h1
    have hi1 : i < (nums f s n).length := by rw [nums_len]; exact h1
    rw [List.getElem?_eq_getElem hi1] at at_
    have ev := Option.some.inj at_
    have m := (mem_nums s0 h.sd).mp (List.getElem_mem hi1)
    obtain ⟨j, hj, ej, e⟩ := h.val m.2.2
    rw [e]
    have em : (nums f s n)[i] % n = (nums f s n)[i] := Int.emod_eq_of_lt m.1 m.2.1
    rw [em] at ej ⊢
    have ij : i = j := by
      have : (i : Int) * s = (j : Int) * s := by omega
      have := Int.eq_of_mul_eq_mul_right (show s ≠ 0 by omega) this
      omega
    subst ij
    omega
end Ld
namespace L15
open PySem PySem.Spec L2 Rt Rs Ld
open PyProof.Rows hiding St
open SrtO

abbrev sRow : Stmt := top 28
abbrev sLead : Stmt := top 29
abbrev sPas : Stmt := top 30
abbrev sLike : Stmt := top 31
/-- the clocks of a lead, and its period, as a law draws them -/
structure PerOk (L : LP) : Prop where
  s0 : 0 < L.s
  s1 : L.s ≤ 60
  r0 : 0 < L.r
  r1 : L.r ≤ 60
  n0 : 0 < L.n
  n1 : L.n ≤ 60
  sd : L.s ∣ L.n
  rd : L.r ∣ L.n
structure Sml (L : LP) (F : Int → Int) : Prop where
  sm : ∀ v, v ∈ nums L.f L.s L.n → (F v).natAbs ≤ 5000
def ldK (sa ea : Addr) (n : Int) (ra x : Addr) : List (Key × V) := [(Sum.inr "start", .ref sa), (Sum.inr "end", .ref ea), (Sum.inr "period", .int n), (Sum.inr "row", .ref ra), (Sum.inr "made", .ref x)]
theorem kn_se : ¬ (("start" : Str) = "end") := by decide +kernel
theorem kn_sp : ¬ (("start" : Str) = "period") := by decide +kernel
theorem kn_sr : ¬ (("start" : Str) = "row") := by decide +kernel
theorem kn_sm : ¬ (("start" : Str) = "made") := by decide +kernel
theorem kn_ep : ¬ (("end" : Str) = "period") := by decide +kernel
theorem kn_er : ¬ (("end" : Str) = "row") := by decide +kernel
theorem kn_em : ¬ (("end" : Str) = "made") := by decide +kernel
theorem kn_pr : ¬ (("period" : Str) = "row") := by decide +kernel
theorem kn_pm : ¬ (("period" : Str) = "made") := by decide +kernel
theorem kn_rm : ¬ (("row" : Str) = "made") := by decide +kernel
section
variable {sa ea ra x : Addr} {n : Int} {r : List (Key × V)}
theorem w_start : valV (((Sum.inr "start" : Key), V.ref sa) :: r) (Sum.inr ("start" : Str)) = some (V.ref sa) := valV_pos rfl
theorem w_end : valV (((Sum.inr "start" : Key), V.ref sa) :: (Sum.inr "end", .ref ea) :: r) (Sum.inr ("end" : Str)) = some (V.ref ea) := by rw [valV_neg (ne_inr kn_se), valV_pos rfl]
theorem w_period : valV (((Sum.inr "start" : Key), V.ref sa) :: (Sum.inr "end", .ref ea) :: (Sum.inr "period", .int n) :: r) (Sum.inr ("period" : Str)) = some (V.int n) := by rw [valV_neg (ne_inr kn_sp), valV_neg (ne_inr kn_ep), valV_pos rfl]
theorem w_row : valV (((Sum.inr "start" : Key), V.ref sa) :: (Sum.inr "end", .ref ea) :: (Sum.inr "period", .int n) :: (Sum.inr "row", .ref ra) :: r) (Sum.inr ("row" : Str)) = some (V.ref ra) := by
  rw [valV_neg (ne_inr kn_sr), valV_neg (ne_inr kn_er), valV_neg (ne_inr kn_pr), valV_pos rfl]
theorem w_made : valV (ldK sa ea n ra x) (Sum.inr ("made" : Str)) = some (V.ref x) := by
  unfold ldK
  rw [valV_neg (ne_inr kn_sm), valV_neg (ne_inr kn_em), valV_neg (ne_inr kn_pm), valV_neg (ne_inr kn_rm), valV_pos rfl]
end
theorem merge5 {sa ea ra x : Addr} {n : Int} : mergeK [] (ldK sa ea n ra x) = ldK sa ea n ra x := merge_keys (by
  have h1 := ne_inr kn_se; have h2 := ne_inr kn_sp; have h3 := ne_inr kn_sr; have h4 := ne_inr kn_sm; have h5 := ne_inr kn_ep
  have h6 := ne_inr kn_er; have h7 := ne_inr kn_em; have h8 := ne_inr kn_pr; have h9 := ne_inr kn_pm; have h10 := ne_inr kn_rm
  unfold ldK
  simp [h1, h2, h3, h4, h5, h6, h7, h8, h9, h10])
theorem merge4 {sa ea ra : Addr} {n : Int} : mergeK [] [(Sum.inr "start", .ref sa), (Sum.inr "end", .ref ea), (Sum.inr "period", .int n), (Sum.inr "row", .ref ra)] = [((Sum.inr "start" : Key), V.ref sa), (Sum.inr "end", .ref ea), (Sum.inr "period", .int n), (Sum.inr "row", .ref ra)] := merge_keys (by
  have h1 := ne_inr kn_se; have h2 := ne_inr kn_sp; have h3 := ne_inr kn_sr; have h5 := ne_inr kn_ep; have h6 := ne_inr kn_er; have h8 := ne_inr kn_pr
  simp [h1, h2, h3, h5, h6, h8])
/-- a drawn lead: the dict and the object -/
structure DM (H : Hp) (C D : Addr) (L : LP) (F : Int → Int) : Prop where
  ex : ∃ sa ea ra x, H D = some (.dK (ldK sa ea L.n ra x)) ∧ H sa = some (.tup [.int L.f, .int L.s]) ∧ H ea = some (.tup [.int L.g, .int L.r]) ∧ H ra = some (.lst ((rowOf L F).map V.int)) ∧ LdAt H C x L F
theorem DM.same {H H' : Hp} {C D : Addr} {L : LP} {F : Int → Int} (h : DM H C D L F) (s : Same H H') : DM H' C D L F := by
  obtain ⟨sa, ea, ra, x, h0, h1, h2, h3, h4⟩ := h.ex
  exact ⟨sa, ea, ra, x, s _ _ h0, s _ _ h1, s _ _ h2, s _ _ h3, h4.same s⟩
theorem DM.dl {H : Hp} {C D : Addr} {L : LP} {F : Int → Int} (h : DM H C D L F) : DL H D L.f L.s L.g L.r L.n (rowOf L F) := by
  obtain ⟨sa, ea, ra, x, h0, h1, h2, h3, h4⟩ := h.ex
  exact ⟨_, sa, ea, ra, h0, w_start, w_end, w_period, w_row, h1, h2, h3⟩
def spRow : Sp := fun vs H Q _ => ∃ (d c sa ea : Addr) (L : LP), vs = [.ref d, .ref sa, .ref ea, .int L.n] ∧ Src H d c ∧ H sa = some (.tup [.int L.f, .int L.s]) ∧ H ea = some (.tup [.int L.g, .int L.r]) ∧ PerOk L ∧
  ∀ (p : Addr) (F : Int → Int) (H' : Hp), mask d c H' p = some (.lst ((rowOf L F).map V.int)) → LOk L F → Sml L F → Src H' d c → Keep d c H H' → Q (.ref p) H'
def spLead (C : Addr) : Sp := fun vs H Q _ => ∃ (d c sa ea : Addr) (L : LP), vs = [.ref d, .ref sa, .ref ea, .int L.n] ∧ Src H d c ∧ H sa = some (.tup [.int L.f, .int L.s]) ∧ H ea = some (.tup [.int L.g, .int L.r]) ∧ PerOk L ∧
  ∀ (D : Addr) (F : Int → Int) (H' : Hp), DM (mask d c H') C D L F → LOk L F → Sml L F → Src H' d c → Keep d c H H' → Q (.ref D) H'
def spPas : Sp := fun vs H Q _ => ∃ (d c : Addr), vs = [.ref d] ∧ Src H d c ∧ ∀ (t p : Addr) (n : Int) (ss : List Int) (H' : Hp), mask d c H' t = some (.tup [.int n, .ref p]) → mask d c H' p = some (.lst (ss.map V.int)) → 0 < n → n ≤ 60 → 0 < ss.length → ss.length < 100 → (∀ s, s ∈ ss → 0 < s ∧ s ≤ 60 ∧ s ∣ n) →
  Src H' d c → Keep d c H H' → Q (.ref t) H'
structure Big (L : LP) (F : Int → Int) : Prop where
  f : L.f.natAbs < 10 ^ 40
  g : L.g.natAbs < 10 ^ 40
  v : ∀ v, v ∈ nums L.f L.s L.n → (F v).natAbs < 10 ^ 38
def spLike (C : Addr) : Sp := fun vs H Q _ => ∃ (D x : Addr) (L : LP) (F : Int → Int), vs = [.ref D, .ref x] ∧ DL H D L.f L.s L.g L.r L.n (rowOf L F) ∧ LdAt H C x L F ∧ LOk L F ∧ Big L F ∧ ∀ H', Same H H' → Q (.bl true) H'
theorem menu_small {z : Int} (h : z ∈ ([1, 2, 6, 6, 8, 12, 12, 15, 20, 24, 60] : List Int)) : 0 < z ∧ z ≤ 60 := by
  simp only [List.mem_cons, List.not_mem_nil, or_false] at h
  rcases h with e | e | e | e | e | e | e | e | e | e | e <;> subst e <;> decide
theorem rep_one {n : Nat} {v : V} : (List.replicate n [v]).flatten = List.replicate n v := by
  induction n with
  | zero => rfl
  | succ n ih => rw [List.replicate_succ, List.flatten_cons, ih]; rfl
theorem steps_filter (n : Nat) : ∀ s, s ∈ ((List.range n).map fun i => ((1 : Int) + (i : Nat))).filter (fun s => decide ((n : Int) % s = 0)) → 0 < s ∧ s ≤ n ∧ s ∣ (n : Int) := fun s m => by
  obtain ⟨m1, m2⟩ := List.mem_filter.mp m
  obtain ⟨i, hi, rfl⟩ := List.mem_map.mp m1
  rw [List.mem_range] at hi
  exact ⟨by omega, by omega, Int.dvd_of_emod_eq_zero (of_decide_eq_true m2)⟩
section
variable {P : Program} {w : World} {K : PySem.W.Frag} {mg : Str → Option Value} {base : Heap} {f C : Addr} {fd : FuncData}

theorem scPas : FnScope ["source", "period", "step"] ["source"] (defScope sPas) := ⟨rfl, rfl, rfl, by decide +kernel, rfl, by decide +kernel, by decide +kernel⟩
theorem ok_pas (F : Fun K "_law_period_and_steps" "_law_period_and_steps" sPas f fd) (T : Wds mg) (cO : Cb P w K mg base 2 "_law_of" spOf) : FnG P w K mg base 3 f fd ["source"] spPas := by
  refine okG F scPas (fun vs H Q E h => ?_) (fun cdv A outer s H vs Q E hg hr h => ?_)
  · obtain ⟨d, c, rfl, _⟩ := h
    rfl
  · obtain ⟨d, c, rfl, S, k⟩ := h
    refine ⟨_, (pss_cons (ps_set (i := 1) scPas.nd rfl (.inr rfl) (pe_k cO hg hr (by decide) (by rfl) (pa_cons (pv 0) (pa_cons (pe_lst (pa_cons pe_int (pa_cons pe_int (pa_cons pe_int (pa_cons pe_int (pa_cons pe_int (pa_cons pe_int (pa_cons pe_int (pa_cons pe_int (pa_cons pe_int (pa_cons pe_int (pa_cons pe_int pa_nil)))))))))))) pa_nil))))
      (pss_one (ps_ret (pe_tup (pa_cons (pv 1) (pa_cons (pe_lc (own := [("step", 2)]) (by rfl) scPas.nd (pi_range2 (by rfl) T.zrange (pa_cons pe_int (pa_cons (pe_op op_add (pv 1) pe_int) pa_nil))) (blkOk_by (N := ["source", "period", "step"]) (sc := defScope sPas) (by decide +kernel)) (fun _ _ _ _ _ => (pg_name (i := 2) scPas.nd rfl (.inl rfl))) (fun _ _ _ _ _ => (pts_one (pt_cmpR op_eq (pe_op op_mod (pe_callTy call_int1 (by rfl) T.zint (by decide +kernel) (pa_cons (pv 1) pa_nil)) (pv 2)) pe_int (nomark _)))) (fun _ _ _ _ _ => (pv 2))) pa_nil)))))), ?_⟩
    refine ⟨_, rfl, (by show 11 ≤ sizeLine; decide), fun q nq => ?_⟩
    refine ⟨d, c, q, ([1, 2, 6, 6, 8, 12, 12, 15, 20, 24, 60] : List Int).map V.int, rfl, S.new nq, upd_same, (S.away nq).2, (by show 0 < 11; decide), (by show 11 < 1000000000; decide), fun i v H1 hi S1 k1 => ?_⟩
    obtain ⟨z, hz, rfl⟩ := int_at hi
    obtain ⟨z0, z1⟩ := menu_small (List.mem_of_getElem? hz)
    obtain ⟨n, rfl⟩ := Int.eq_ofNat_of_zero_le (show 0 ≤ z by omega)
    have k2 := (Keep.refl.new (d := d) (c := c) (o := .lst (([1, 2, 6, 6, 8, 12, 12, 15, 20, 24, 60] : List Int).map V.int)) nq).trans k1
    refine ⟨_, rfl, _, rfl, _, _, rfl, rfl, 1, (n : Int) + 1, rfl, ⟨by omega, by omega, by omega, by omega⟩, fun D nD => ?_⟩
    rw [show ((n : Int) + 1 - 1).toNat = n by omega]
    have aD := S1.away nD
    refine lc_range (lo := 1) (fun i H2 => Same H1 H2 ∧ H2 D = some (.lst ((((List.range i).map fun i => ((1 : Int) + (i : Nat))).filter fun s => decide ((n : Int) % s = 0)).map V.int))) ⟨same_new nD, upd_same⟩ ?_ ?_
    · rintro i H2 hi ⟨s2, hD⟩
      refine ⟨rfl, _, rfl, .inl ⟨_, rfl, _, rfl, _, _, rfl, rfl, (by omega : (0 : Int) < 1 + (i : Nat)), ?_⟩⟩
      refine ⟨rfl, _, rfl, ?_⟩
      rw [dec_V]
      have step : ((List.range (i + 1)).map fun i => ((1 : Int) + (i : Nat))) = ((List.range i).map fun i => ((1 : Int) + (i : Nat))) ++ [(1 : Int) + (i : Nat)] := by
        rw [List.range_succ, List.map_append]
        rfl
      by_cases e : (n : Int) % (1 + (i : Nat)) = 0
      · rw [decide_eq_true e]
        refine iteT ⟨_, rfl, _, hD, small1000 ?_, fun b o z => by rw [upd_ne (ne_of_none z nD)]; exact s2 b o z, ?_⟩
        · rw [List.length_map]
          refine Nat.le_trans (List.length_filter_le _ _) ?_
          rw [List.length_map, List.length_range]
          omega
        · rw [upd_same, step, List.filter_append, List.map_append]
          simp only [List.filter_cons, decide_eq_true e, if_true, List.filter_nil]
          rfl
      · rw [decide_eq_false e]
        refine iteF ⟨s2, ?_⟩
        rw [step, List.filter_append]
        simp only [List.filter_cons, decide_eq_false e, List.filter_nil, List.append_nil, Bool.false_eq_true, if_false]
        exact hD
    · rintro H2 ⟨s2, hD⟩
      refine ⟨(by show 2 ≤ sizeLine; decide), fun t nt => ?_⟩
      have S2 := S1.same s2
      have one : (1 : Int) ∈ ((List.range n).map fun i => ((1 : Int) + (i : Nat))).filter fun s => decide ((n : Int) % s = 0) := List.mem_filter.mpr ⟨List.mem_map.mpr ⟨0, List.mem_range.mpr (by omega), rfl⟩, decide_eq_true (Int.emod_one _)⟩
      refine k t D n _ _ (mask_at (S2.away nt) upd_same) (mask_at aD ((same_new nt) _ _ hD)) (by omega) (by omega) (List.length_pos_of_mem one) ?_ (fun s m => ?_) (S2.new nt) ((k2.trans (Keep.of s2)).new nt)
      · refine Nat.lt_of_le_of_lt (List.length_filter_le _ _) ?_
        rw [List.length_map, List.length_range]
        omega
      · obtain ⟨h1, h2, h3⟩ := steps_filter n s m
        exact ⟨h1, by omega, h3⟩
theorem scRow : FnScope ["source", "start", "end", "period", "many", "base", "way", "room", "some", "v", "lap", "k"] ["source", "start", "end", "period"] (defScope sRow) := ⟨rfl, rfl, rfl, by decide +kernel, rfl, by decide +kernel, by decide +kernel⟩
theorem ok_row (F : Fun K "_law_row" "_law_row" sRow f fd) (T : Wds mg) (cP : Cb P w K mg base 1 "_law_pick" spPick) (cO : Cb P w K mg base 2 "_law_of" spOf) (cN : Cb P w K mg base 1 "_law_numbers" spNumbers) (cU : Cb P w K mg base 1 "_law_up" spLUp) : FnG P w K mg base 3 f fd ["source", "start", "end", "period"] spRow := by
  refine okG F scRow (fun vs H Q E h => ?_) (fun cdv A outer s H vs Q E hg hr h => ?_)
  · obtain ⟨d, c, sa, ea, L, rfl, _⟩ := h
    rfl
  · obtain ⟨d, c, sa, ea, L, rfl, S, hs, he, per, k⟩ := h
    have s0 := per.s0
    have s1 := per.s1
    have r0 := per.r0
    have r1 := per.r1
    have n0 := per.n0
    have n1 := per.n1
    have hu64 := hr.units
    refine ⟨_, (pss_cons (ps_asg (pe_tup (pa_cons (pe_callB call_len_seq (by rfl) T.zlen (by decide +kernel) (pa_cons (pe_k cN hg hr (by decide) (by rfl) (pa_cons (pv 1) (pa_cons (pv 3) pa_nil))) pa_nil)) (pa_cons (pe_k cU hg hr (by decide) (by rfl) (pa_cons (pv 2) (pa_cons (pe_op op_sub (pe_k cP hg hr (by decide) (by rfl) (pa_cons (pv 0) (pa_cons pe_int pa_nil))) pe_int) pa_nil))) pa_nil))) (pg_tup (by rfl) (pgs_cons (pg_name (i := 4) scRow.nd rfl (.inl rfl)) (pgs_cons (pg_name (i := 5) scRow.nd rfl (.inr rfl)) pgs_nil))))
      (pss_cons (ps_asg (pe_tup (pa_cons (pe_k cP hg hr (by decide) (by rfl) (pa_cons (pv 0) (pa_cons pe_int pa_nil))) (pa_cons (pe_op op_fdiv (pe_callTy call_int1 (by rfl) T.zint (by decide +kernel) (pa_cons (pv 3) pa_nil)) (pe_ix (ix_tup : IxR _ (rIxT K)) (pv 2) pe_int (fun _ _ => rfl))) pa_nil))) (pg_tup (by rfl) (pgs_cons (pg_name (i := 6) scRow.nd rfl (.inl rfl)) (pgs_cons (pg_name (i := 7) scRow.nd rfl (.inr rfl)) pgs_nil))))
      (pss_cons (ps_if (pt_cmpR op_eq (pv 6) pe_int (nomark _)) (pss_one (ps_ret (pe_lc (own := [("v", 9)]) (by rfl) scRow.nd (pi_list (pe_k cN hg hr (by decide) (by rfl) (pa_cons (pv 1) (pa_cons (pv 3) pa_nil)))) (blkOk_by (N := ["source", "start", "end", "period", "many", "base", "way", "room", "some", "v", "lap", "k"]) (sc := defScope sRow) (by decide +kernel)) (fun _ _ _ _ _ => (pg_name (i := 9) scRow.nd rfl (.inl rfl))) (fun _ _ _ _ _ => pts_nil) (fun _ _ _ _ _ => (pe_k cU hg hr (by decide) (by rfl) (pa_cons (pv 2) (pa_cons (pe_op op_add (pv 9) (pv 5)) pa_nil))))))) pss_nil)
      (pss_cons (ps_if (pt_cmpR op_eq (pv 6) pe_int (nomark _)) (pss_one (ps_ret (pe_op op_rep (pe_lst (pa_cons (pe_op op_add (pv 5) (pe_op op_mul (pe_ix (ix_tup : IxR _ (rIxT K)) (pv 2) pe_int (fun _ _ => rfl)) (pe_k cO hg hr (by decide) (by rfl) (pa_cons (pv 0) (pa_cons (pe_lst (pa_cons pe_int (pa_cons (pv 7) pa_nil))) pa_nil))))) pa_nil)) (pv 4)))) pss_nil)
      (pss_cons (ps_set (i := 8) scRow.nd rfl (.inl rfl) (pe_callB cr_sortedI (by rfl) T.zsorted (by decide +kernel) (pa_cons (pe_lc (own := [("lap", 10)]) (by rfl) scRow.nd (pi_range1 (by rfl) T.zrange (pa_cons (pv 4) pa_nil)) (blkOk_by (N := ["source", "start", "end", "period", "many", "base", "way", "room", "some", "v", "lap", "k"]) (sc := defScope sRow) (by decide +kernel)) (fun _ _ _ _ _ => (pg_name (i := 10) scRow.nd rfl (.inl rfl))) (fun _ _ _ _ _ => pts_nil) (fun _ _ _ _ _ => (pe_k cP hg hr (by decide) (by rfl) (pa_cons (pv 0) (pa_cons (pe_op op_add (pv 7) pe_int) pa_nil))))) pa_nil)))
      (pss_one (ps_ret (pe_lc (own := [("k", 11)]) (by rfl) scRow.nd (pi_list (pv 8)) (blkOk_by (N := ["source", "start", "end", "period", "many", "base", "way", "room", "some", "v", "lap", "k"]) (sc := defScope sRow) (by decide +kernel)) (fun _ _ _ _ _ => (pg_name (i := 11) scRow.nd rfl (.inl rfl))) (fun _ _ _ _ _ => pts_nil) (fun _ _ _ _ _ => (pe_op op_add (pv 5) (pe_op op_mul (pe_ix (ix_tup : IxR _ (rIxT K)) (pv 2) pe_int (fun _ _ => rfl)) (pv 11)))))))))))), ?_⟩
    obtain ⟨n, en⟩ := Int.eq_ofNat_of_zero_le (show 0 ≤ L.n by omega)
    have ms := mask_at (S.nd hs) hs
    have me := mask_at (S.nd he) he
    -- many, base
    refine ⟨_, rfl, _, rfl, sa, L.f, L.s, n, by rw [en]; rfl, hs, s0, s1, by rw [← en]; exact per.sd, by omega, fun p H1 np s01 hp => ?_⟩
    rw [← en] at hp
    have S1 := S.same s01
    have lenp : ((nums L.f L.s L.n).map V.int).length = (L.n / L.s).toNat := by rw [List.length_map, nums_len]
    refine ⟨p, _, rfl, .inl (SqL.of hp), _, rfl, _, rfl, d, c, 61, rfl, S1, by decide, fun b0 H2 b00 b01 S2 k2 => ?_⟩
    have g2 : Same (mask d c H) (mask d c H2) := (sub_same s01).trans (mask_keep k2)
    have K2 : Keep d c H H2 := (Keep.of s01).trans k2
    rw [lenp]
    refine ⟨_, _, rfl, rfl, ea, L.g, L.r, _, rfl, mask_same _ _ (g2 _ _ me), r0, by omega, ?_⟩
    have bb1 := upv_le (f := L.g) (x := b0 - 30) r0
    have bb2 := upv_lt (f := L.g) (x := b0 - 30) r0
    have bb3 := upv_on L.g L.r (b0 - 30)
    revert bb1 bb2 bb3
    generalize upv L.g L.r (b0 - 30) = base0
    intro bb1 bb2 bb3
    refine ⟨(by show 2 ≤ sizeLine; decide), fun tp ntp => ?_⟩
    refine ⟨tp, _, rfl, SqT.of upd_same, rfl, _, _, rfl, _, _, rfl, rfl, ?_⟩
    have S3 := S2.new (o := .tup [.int ((L.n / L.s).toNat : Nat), .int base0]) ntp
    have g3 := g2.trans (mask_new (d := d) (c := c) (o := .tup [.int ((L.n / L.s).toNat : Nat), .int base0]) ntp)
    have K3 := K2.new (o := .tup [.int ((L.n / L.s).toNat : Nat), .int base0]) ntp
    revert S3 g3 K3
    generalize upd H2 tp (.tup [.int ((L.n / L.s).toNat : Nat), .int base0]) = H3
    intro S3 g3 K3
    -- way, room
    refine ⟨_, rfl, d, c, 4, rfl, S3, by decide, fun way H4 w0 w1 S4 k4 => ?_⟩
    have g4 := g3.trans (mask_keep k4)
    have K4 := K3.trans k4
    refine ⟨_, rfl, .inl ⟨_, rfl, _, rfl, ea, _, _, _, rfl, rfl, SqT.of (mask_same _ _ (g4 _ _ me)), at1, _, _, rfl, rfl, ⟨r0, by omega⟩, ?_⟩⟩
    dsimp only
    have rm : L.r * (L.n / L.r) = L.n := Int.mul_ediv_cancel' per.rd
    have rm0 : 0 ≤ L.n / L.r := Int.ediv_nonneg (by omega) (by omega)
    have rm1 : L.n / L.r ≤ 60 := Int.le_trans (Int.ediv_le_self _ (by omega)) n1
    revert rm rm0 rm1
    generalize L.n / L.r = room
    intro rm rm0 rm1
    refine ⟨(by show 2 ≤ sizeLine; decide), fun t2 nt2 => ?_⟩
    refine ⟨t2, _, rfl, SqT.of upd_same, rfl, _, _, rfl, _, _, rfl, rfl, ?_⟩
    have S5 := S4.new (o := .tup [.int way, .int room]) nt2
    have g5 := g4.trans (mask_new (d := d) (c := c) (o := .tup [.int way, .int room]) nt2)
    have K5 := K4.new (o := .tup [.int way, .int room]) nt2
    revert S5 g5 K5
    generalize upd H4 t2 (.tup [.int way, .int room]) = H5
    intro S5 g5 K5
    have hs5 := mask_same _ _ (g5 _ _ ms)
    have he5 := mask_same _ _ (g5 _ _ me)
    have fewn : (L.n / L.s).toNat ≤ 60 := by
      have := Int.ediv_le_self L.s (show 0 ≤ L.n by omega)
      omega
    -- way == 0
    refine ⟨_, rfl, rfl, ?_⟩
    rw [dec_V]
    by_cases e0 : way = 0
    · rw [decide_eq_true e0]
      refine ⟨_, rfl, iteT ?_⟩
      have sem := sem_up (f := L.f) (s := L.s) (g := L.g) (r := L.r) (n := L.n) (c := base0) s0 r0 n0 per.sd per.rd
      refine ⟨_, rfl, _, rfl, sa, L.f, L.s, n, by rw [en]; rfl, hs5, s0, s1, by rw [← en]; exact per.sd, by omega, fun q H6 nq s6 hq => ?_⟩
      rw [← en] at hq
      refine ⟨q, rfl, ⟨_, SqL.of hq⟩, fun D nD => ?_⟩
      have S6 := S5.same s6
      refine lc_it walk_list (fun i H7 => Same H6 H7 ∧ H7 D = some (.lst (((rowOf L (fun v => upv L.g L.r (v + base0))).take i).map V.int))) ⟨same_new nD, upd_same⟩ (fun i H7 _ z => SqL.of (z.1 _ _ hq)) ?_ ?_
      · rintro i y H7 H8 hi ⟨s7, hD⟩ ⟨rfl, hy⟩
        rw [lenp] at hi
        obtain rfl : V.int (L.f % L.s + (i : Nat) * L.s) = y := by
          rw [List.getElem?_map, nums_at hi] at hy
          exact Option.some.inj hy
        refine ⟨rfl, _, rfl, _, rfl, _, rfl, _, _, rfl, rfl, ea, L.g, L.r, _, rfl, s7 _ _ (s6 _ _ he5), r0, by omega, _, hD, small1000 (by rw [List.length_map, List.length_take]; omega), fun b o z => by rw [upd_ne (ne_of_none z nD)]; exact s7 b o z, ?_⟩
        rw [upd_same, List.take_succ, row_at hi, List.map_append]
        rfl
      · rintro H7 ⟨s7, hD⟩
        rw [List.take_of_length_le (by rw [row_len, lenp]; exact Nat.le_refl _)] at hD
        have S7 := S6.same s7
        refine k D _ H7 (mask_at (S6.away nD) hD) ⟨sem, s1, r1, by omega⟩ ⟨fun v hv => ?_⟩ S7 (K5.trans (Keep.of (s6.trans s7)))
        obtain ⟨v0, v1, _⟩ := (mem_nums s0 per.sd).mp hv
        have u1 := upv_le (f := L.g) (x := v + base0) r0
        have u2 := upv_lt (f := L.g) (x := v + base0) r0
        show (upv L.g L.r (v + base0)).natAbs ≤ 5000
        omega
    · rw [decide_eq_false e0]
      refine ⟨_, rfl, iteF ?_⟩
      refine ⟨_, rfl, rfl, ?_⟩
      rw [dec_V]
      have big : ∀ z : Int, 0 ≤ z → z ≤ room → 0 ≤ L.r * z ∧ L.r * z ≤ L.n := fun z z0 z1 => by
        have a := Int.mul_le_mul_of_nonneg_left z1 (show 0 ≤ L.r by omega)
        have b := Int.mul_nonneg (show 0 ≤ L.r by omega) z0
        omega
      by_cases e1 : way = 1
      · rw [decide_eq_true e1]
        refine ⟨_, rfl, iteT ?_⟩
        refine ⟨_, rfl, _, rfl, ea, _, _, _, rfl, rfl, SqT.of he5, at1, _, rfl, _, rfl, (by show 2 ≤ sizeLine; decide), fun q nq => ?_⟩
        refine ⟨d, c, q, ([0, room] : List Int).map V.int, rfl, S5.new nq, upd_same, (S5.away nq).2, (by show 0 < 2; decide), (by show 2 < 1000000000; decide), fun i v H6 hi S6 k6 => ?_⟩
        obtain ⟨z, hz, rfl⟩ := int_at hi
        have bz : 0 ≤ z ∧ z ≤ room := by
          have m := List.mem_of_getElem? hz
          simp only [List.mem_cons, List.not_mem_nil, or_false] at m
          omega
        have K6 := (K5.new (o := .lst (([0, room] : List Int).map V.int)) nq).trans k6
        have bx := big z bz.1 bz.2
        refine ⟨_, _, rfl, rfl, .inl ⟨by omega, by omega⟩, _, _, rfl, rfl, (by show 1 ≤ sizeLine; decide), fun z0 nz0 => ?_⟩
        dsimp only
        have hc : (base0 + L.r * z - L.g) % L.r = 0 := by
          rw [show base0 + L.r * z - L.g = base0 - L.g + L.r * z by omega, Int.add_mul_emod_self_left]
          exact bb3
        have cs : -30 ≤ base0 + L.r * z ∧ base0 + L.r * z ≤ 300 := by omega
        have sem := sem_flat (f := L.f) (s := L.s) (g := L.g) (r := L.r) (n := L.n) s0 r0 n0 per.sd per.rd hc
        revert cs sem
        generalize base0 + L.r * z = x0
        intro cs sem
        refine ⟨_, rfl, z0, _, _, rfl, rfl, upd_same, by omega, by omega, by show 1 * _ ≤ sizeLine; rw [sizeLine_eq]; omega, fun p np => ?_⟩
        have S7 := S6.new (o := .lst [V.int x0]) nz0
        have K7 := K6.new (o := .lst [V.int x0]) nz0
        have erow : (List.replicate (((L.n / L.s).toNat : Nat) : Int).toNat [V.int x0]).flatten = (rowOf L (fun v => x0 + (v - v % L.n))).map V.int := by
          rw [rep_one, Int.toNat_natCast]
          have e2 : rowOf L (fun v => x0 + (v - v % L.n)) = List.replicate (L.n / L.s).toNat x0 := by
            unfold rowOf
            rw [List.map_congr_left (g := fun _ => x0) fun v hv => by
              obtain ⟨v0, v1, _⟩ := (mem_nums s0 per.sd).mp hv
              show x0 + (v - v % L.n) = x0
              rw [Int.emod_eq_of_lt v0 v1]
              omega, List.map_const', nums_len]
          rw [e2, List.map_replicate]
        rw [erow]
        refine k p _ _ (mask_at (S7.away np) upd_same) ⟨sem, s1, r1, by omega⟩ ⟨fun v hv => ?_⟩ (S7.new np) (K7.new np)
        obtain ⟨v0, v1, _⟩ := (mem_nums s0 per.sd).mp hv
        show (x0 + (v - v % L.n)).natAbs ≤ 5000
        rw [Int.emod_eq_of_lt v0 v1]
        omega
      · rw [decide_eq_false e1]
        refine ⟨_, rfl, iteF ?_⟩
        -- sorted
        refine ⟨_, rfl, (((L.n / L.s).toNat : Nat) : Int), rfl, by omega, by omega, fun D nD => ?_⟩
        have aD := S5.away nD
        refine lc_range (lo := 0) (fun i H6 => Keep d c H5 H6 ∧ Src H6 d c ∧ ∃ ns : List Int, mask d c H6 D = some (.lst (ns.map V.int)) ∧ ns.length = i ∧ ∀ x, x ∈ ns → 0 ≤ x ∧ x ≤ room) ⟨Keep.refl.new nD, S5.new nD, [], mask_at aD upd_same, rfl, fun x h => nomatch h⟩ ?_ ?_
        · rintro i H6 hi ⟨k6, S6, ns, hD, rfl, bn⟩
          refine ⟨rfl, _, rfl, _, rfl, _, _, rfl, rfl, d, c, _, rfl, S6, by omega, fun x H7 x0 x1 S7 k7 => ?_⟩
          refine ⟨_, mask_same _ _ (mask_keep k7 _ _ hD), small1000 (by rw [List.length_map]; omega), (k6.trans k7).put nD, S7.put aD, ns ++ [x], mask_at aD ?_, by rw [List.length_append]; rfl, fun y hy => ?_⟩
          · rw [upd_same, List.map_append]
            rfl
          · rcases List.mem_append.mp hy with h | h
            · exact bn y h
            · cases List.mem_singleton.mp h
              omega
        · rintro H6 ⟨k6, S6, ns, hD, ln, bn⟩
          rw [Int.toNat_natCast] at ln
          refine ⟨D, ns, rfl, SqL.of (mask_same _ _ hD), fun ns' p perm pw np => ?_⟩
          have S7 := S6.new (o := .lst (ns'.map V.int)) np
          have K7 := (K5.trans k6).new (o := .lst (ns'.map V.int)) np
          have hp7 := upd_same (H := H6) (a := p) (o := .lst (ns'.map V.int))
          have he7 : mask d c (upd H6 p (.lst (ns'.map V.int))) ea = _ := (mask_keep (k6.new (o := .lst (ns'.map V.int)) np)) _ _ (g5 _ _ me)
          revert S7 K7 hp7 he7
          generalize upd H6 p (.lst (ns'.map V.int)) = H7
          intro S7 K7 hp7 he7
          refine ⟨_, rfl, p, rfl, ⟨_, SqL.of hp7⟩, fun E nE => ?_⟩
          have ln' : ns'.length = (L.n / L.s).toNat := by rw [perm.length_eq, ln]
          have bn' : ∀ x, x ∈ ns' → 0 ≤ x ∧ x ≤ room := fun x hx => bn x (perm.mem_iff.mp hx)
          have rok : Rok L.f L.s L.g L.r L.n (ns'.map fun k => base0 + L.r * k) := by
            refine ⟨s0, r0, n0, per.sd, per.rd, by rw [List.length_map, ln'], fun x hx => ?_, ?_, fun x y hx hy => ?_⟩
            · obtain ⟨z, hz, rfl⟩ := List.mem_map.mp hx
              show (base0 + L.r * z - L.g) % L.r = 0
              rw [show base0 + L.r * z - L.g = base0 - L.g + L.r * z by omega, Int.add_mul_emod_self_left]
              exact bb3
            · rw [List.pairwise_map]
              refine List.Pairwise.imp (fun {a b} le => ?_) pw
              have := Int.mul_le_mul_of_nonneg_left le (show 0 ≤ L.r by omega)
              omega
            · obtain ⟨u, hu, rfl⟩ := List.mem_map.mp hx
              obtain ⟨z, hz, rfl⟩ := List.mem_map.mp hy
              have bu := big u (bn' u hu).1 (bn' u hu).2
              have bz := big z (bn' z hz).1 (bn' z hz).2
              show base0 + L.r * z ≤ base0 + L.r * u + L.n
              omega
          obtain ⟨sem, er⟩ := rok.sem
          refine lc_it walk_list (fun i H8 => Same H7 H8 ∧ H8 E = some (.lst (((ns'.map fun k => base0 + L.r * k).take i).map V.int))) ⟨same_new nE, upd_same⟩ (fun i H8 _ z => SqL.of (z.1 _ _ hp7)) ?_ ?_
          · rintro i y H8 H9 hi ⟨s8, hE⟩ ⟨rfl, hy⟩
            obtain ⟨z, hz, rfl⟩ := int_at hy
            refine ⟨rfl, _, rfl, _, rfl, ea, _, _, _, rfl, rfl, SqT.of (s8 _ _ (mask_same _ _ he7)), at1, _, rfl, _, _, rfl, rfl, .inl ⟨by omega, by omega⟩, _, _, rfl, rfl, _, hE, small1000 (by rw [List.length_map, List.length_take, List.length_map]; omega), fun b o z => by rw [upd_ne (ne_of_none z nE)]; exact s8 b o z, ?_⟩
            rw [upd_same, List.take_succ, List.getElem?_map, hz, List.map_append]
            rfl
          · rintro H8 ⟨s8, hE⟩
            rw [List.take_of_length_le (by rw [List.length_map, List.length_map]; exact Nat.le_refl _)] at hE
            have S8 := S7.same s8
            have erow : rowOf L (valL L.s L.n (ns'.map fun k => base0 + L.r * k)) = ns'.map fun k => base0 + L.r * k := er
            rw [← erow] at hE
            refine k E _ H8 (mask_at (S7.away nE) hE) ⟨sem, s1, r1, by omega⟩ ⟨fun v hv => ?_⟩ S8 (K7.trans (Keep.of s8))
            have m : valL L.s L.n (ns'.map fun k => base0 + L.r * k) v ∈ ns'.map fun k => base0 + L.r * k := by
              have m := List.mem_map_of_mem (f := valL L.s L.n (ns'.map fun k => base0 + L.r * k)) hv
              rw [er] at m
              exact m
            revert m
            generalize valL L.s L.n (ns'.map fun k => base0 + L.r * k) v = y
            intro m
            obtain ⟨z, hz, rfl⟩ := List.mem_map.mp m
            have bz := big z (bn' z hz).1 (bn' z hz).2
            omega
theorem scLead : FnScope ["source", "start", "end", "period", "row"] ["source", "start", "end", "period"] (defScope sLead) := ⟨rfl, rfl, rfl, by decide +kernel, rfl, by decide +kernel, by decide +kernel⟩
theorem ok_lead (F : Fun K "_law_lead" "_law_lead" sLead f fd) (T : Wds mg) (mk : Mkr P w K mg base 5 C "Lead" (spInit C)) (cR : Cb P w K mg base 3 "_law_row" spRow) : FnG P w K mg base 7 f fd ["source", "start", "end", "period"] (spLead C) := by
  refine okG F scLead (fun vs H Q E h => ?_) (fun cdv A outer s H vs Q E hg hr h => ?_)
  · obtain ⟨d, c, sa, ea, L, rfl, _⟩ := h
    rfl
  · obtain ⟨d, c, sa, ea, L, rfl, S, hs, he, per, k⟩ := h
    refine ⟨_, (pss_cons (ps_set (i := 4) scLead.nd rfl (.inl rfl) (pe_k cR hg hr (by decide) (by rfl) (pa_cons (pv 0) (pa_cons (pv 1) (pa_cons (pv 2) (pa_cons (pv 3) pa_nil))))))
      (pss_one (ps_ret (pe_disp (pps_cons pe_str (pv 1) (pps_cons pe_str (pv 2) (pps_cons pe_str (pv 3) (pps_cons pe_str (pv 4) (pps_cons pe_str (pe_mkr mk hr (by decide) (by rfl) (pa_cons (pv 1) (pa_cons (pv 2) (pa_cons (pv 3) (pa_cons (pv 4) pa_nil))))) pps_nil))))) (by rfl) (by rfl) (fun z => by cases z) (by decide))))), ?_⟩
    have ms := mask_at (S.nd hs) hs
    have me := mask_at (S.nd he) he
    refine ⟨_, rfl, _, rfl, _, rfl, _, rfl, d, c, sa, ea, L, rfl, S, hs, he, per, fun p F H1 hp ok sml S1 k1 => ?_⟩
    have g1 := mask_keep k1
    intro D nD
    have S2 := S1.new (o := .dK []) nD
    have g2 := g1.trans (mask_new (d := d) (c := c) (o := .dK []) nD)
    have K2 := k1.new (o := .dK []) nD
    have hD := upd_same (H := H1) (a := D) (o := .dK [])
    have mp2 := (mask_new (d := d) (c := c) (o := .dK []) nD) _ _ hp
    have nD1 := nD
    have aD := S1.away nD
    revert S2 g2 K2 hD mp2
    generalize eH2 : upd H1 D (.dK []) = H2
    intro S2 g2 K2 hD mp2
    refine ⟨_, rfl, _, rfl, _, rfl, _, rfl, _, rfl, _, rfl, _, rfl, _, rfl, fun x dx nx ndx ne => ?_⟩
    have sm : Same H2 (upd (upd H2 dx (.own x)) x (.ins C dx [])) := (same_new ndx).trans (same_new (by rw [upd_ne ne.symm]; exact nx))
    refine ⟨x, dx, p, sa, ea, L, F, rfl, upd_same, sm _ _ (mask_same _ _ mp2), sm _ _ (mask_same _ _ (g2 _ _ ms)), sm _ _ (mask_same _ _ (g2 _ _ me)), ok, fun H3 b3 ld => ⟨rfl, ?_⟩⟩
    have s3 : Same H2 H3 := fun y u q => b3 y u (sm _ _ q) (ne_of_none q nx)
    have S3 := S2.same s3
    have hD3 := s3 _ _ hD
    have g3 := g2.trans (sub_same s3)
    have mp3 := (sub_same s3) _ _ mp2
    have K3 := K2.trans (Keep.of s3)
    refine ⟨hD3, ldK sa ea L.n p x, rfl, (by show 5 ≤ 15; decide), ?_⟩
    rw [merge5]
    have but : Sbut D (mask d c H3) (mask d c (upd H3 D (.dK (ldK sa ea L.n p x)))) := mask_but
    have n1 : sa ≠ D := ne_of (mask_same _ _ (g3 _ _ ms)) hD3 (by intro z; cases z)
    have n2 : ea ≠ D := ne_of (mask_same _ _ (g3 _ _ me)) hD3 (by intro z; cases z)
    have n3 : p ≠ D := ne_of (mask_same _ _ mp3) hD3 (by intro z; cases z)
    have ldm := ld.mask S3
    obtain ⟨dx', sa', ea', ra', h1, h2, h3, h4⟩ := ldm.ex
    have n4 : x ≠ D := ne_of (mask_same _ _ h1) hD3 (by intro z; cases z)
    have n5 : sa' ≠ D := ne_of (mask_same _ _ h2) hD3 (by intro z; cases z)
    have n6 : ea' ≠ D := ne_of (mask_same _ _ h3) hD3 (by intro z; cases z)
    have n7 : ra' ≠ D := ne_of (mask_same _ _ h4) hD3 (by intro z; cases z)
    refine k D F _ ⟨sa, ea, p, x, mask_at aD upd_same, but _ _ (g3 _ _ ms) n1, but _ _ (g3 _ _ me) n2, but _ _ mp3 n3, ⟨dx', sa', ea', ra', but _ _ h1 n4, but _ _ h2 n5, but _ _ h3 n6, but _ _ h4 n7⟩⟩ ok sml (S3.put aD) ?_
    refine fun b o e m1 m2 => ?_
    have q := K3 b o e m1 m2
    have bD : b ≠ D := fun z => by
      have e2 := k1 b o e m1 m2
      rw [z] at e2
      rw [nD1] at e2
      cases e2
    rw [upd_ne bD]
    exact q
theorem scLike : FnScope ["lead", "told", "due", "some", "v"] ["lead", "told"] (defScope sLike) := ⟨rfl, rfl, rfl, by decide +kernel, rfl, by decide +kernel, by decide +kernel⟩
theorem sum_row (ks : List Int) (h : ∀ k, k ∈ ks → (k : Int).natAbs < 10 ^ 40) : ((PyData.shownAll (ks.map PyData.int)).map (·.length)).sum ≤ 450 * ks.length ∧ (PyData.shownAll (ks.map PyData.int)).length = ks.length ∧ PyData.showableAll (ks.map PyData.int) = true ∧ PyData.depthAll (ks.map PyData.int) ≤ 2 := by
  have q := sum_le (ds := ks.map PyData.int) fun d m => by
    obtain ⟨k, hk, rfl⟩ := List.mem_map.mp m
    exact sm_int (h k hk)
  rw [List.length_map] at q
  exact q
structure Med (d : PyData) : Prop where
  sh : d.showable = true
  dp : d.depth ≤ 50
  ln : d.shown.length ≤ 2000000
theorem med_int {i : Int} (h : i.natAbs < 10 ^ 40) : Med (.int i) := by
  have s := sm_int h
  exact ⟨s.sh, Nat.le_trans s.dp (by decide), Nat.le_trans s.ln (by decide)⟩
theorem med_row {ks : List Int} (h : ∀ k, k ∈ ks → (k : Int).natAbs < 10 ^ 40) (few : ks.length ≤ 3600) : Med (.list (ks.map PyData.int)) := by
  obtain ⟨q1, q2, q3, q4⟩ := sum_row ks h
  refine ⟨by simp only [PyData.showable, q3], by simp only [PyData.depth]; omega, ?_⟩
  simp only [PyData.shown]
  refine Nat.le_trans (listText_len_le _) ?_
  rw [q2]
  omega
theorem med_two {a b : Int} (ha : a.natAbs < 10 ^ 40) (hb : b.natAbs < 10 ^ 40) : Med (.tuple [.int a, .int b]) := by
  obtain ⟨q1, q2, q3, q4⟩ := sum_row [a, b] (by intro k m; simp only [List.mem_cons, List.not_mem_nil, or_false] at m; rcases m with rfl | rfl <;> assumption)
  simp only [List.map_cons, List.map_nil] at q1 q2 q3 q4
  refine ⟨by simp only [PyData.showable, q3], by simp only [PyData.depth]; omega, ?_⟩
  simp only [PyData.shown]
  refine Nat.le_trans (tupleText_len_le _) ?_
  rw [q2]
  simp only [List.length_cons, List.length_nil] at q1 ⊢
  omega
theorem med_four {a b e x : PyData} (ha : Med a) (hb : Med b) (he : Med e) (hx : Med x) : (PyData.list [a, b, e, x]).showable = true ∧ (PyData.list [a, b, e, x]).depth ≤ 60 ∧ (PyData.list [a, b, e, x]).shown.length ≤ sizeLine := by
  have a1 := ha.dp; have b1 := hb.dp; have e1 := he.dp; have x1 := hx.dp
  have a2 := ha.ln; have b2 := hb.ln; have e2 := he.ln; have x2 := hx.ln
  refine ⟨by simp [PyData.showable, PyData.showableAll, ha.sh, hb.sh, he.sh, hx.sh], ?_, ?_⟩
  · simp only [PyData.depth, PyData.depthAll]
    omega
  · simp only [PyData.shown, PyData.shownAll]
    refine Nat.le_trans (listText_len_le _) ?_
    simp only [List.map_cons, List.map_nil, List.sum_cons, List.sum_nil, List.length_cons, List.length_nil]
    rw [sizeLine_eq]
    omega
theorem Sm.one {d : PyData} (h : Sm d) : d.showable = true ∧ d.depth ≤ 60 ∧ d.shown.length ≤ sizeLine := ⟨h.sh, Nat.le_trans h.dp (by decide), Nat.le_trans h.ln (by decide)⟩
theorem ok_like (F : Fun K "_law_is_like" "_law_is_like" sLike f fd) (T : Wds mg) (cn : ClsL K C) (M : MethL P w K mg base C) (cN : Cb P w K mg base 1 "_law_numbers" spNumbers) (cV : Cb P w K mg base 1 "_law_value" spValue) : FnG P w K mg base 4 f fd ["lead", "told"] (spLike C) := by
  refine okG F scLike (fun vs H Q E h => ?_) (fun cdv A outer s H vs Q E hg hr h => ?_)
  · obtain ⟨D, x, L, F, rfl, _⟩ := h
    rfl
  · obtain ⟨D, x, L, F, rfl, dl, ld, ok, big, k⟩ := h
    have hu := hu_of hr
    have hu64 := hr.units
    have s0 := ok.sem.s0
    have s1 := ok.s1
    have n0 := ok.sem.n0
    have n1 := ok.n1
    have pos := ok.pos
    have few := ok.few
    refine ⟨_, (pss_cons (ps_set (i := 2) scLike.nd rfl (.inl rfl) (pe_lst (pa_cons (pe_dget hu (pv 0) pe_str (fun _ _ => rfl)) (pa_cons (pe_dget hu (pv 0) pe_str (fun _ _ => rfl)) (pa_cons (pe_dget hu (pv 0) pe_str (fun _ _ => rfl)) (pa_cons (pe_dget hu (pv 0) pe_str (fun _ _ => rfl)) pa_nil))))))
      (pss_cons (ps_if (pt_cmpR op_ne (pe_callB (call_reprX hg hu64) (by rfl) T.zrepr (by decide +kernel) (pa_cons (pe_lst (pa_cons (pe_m0' cn.cls M.start hr (by decide) (pv 1)) (pa_cons (pe_m0' cn.cls M.end_ hr (by decide) (pv 1)) (pa_cons (pe_m0' cn.cls M.period hr (by decide) (pv 1)) (pa_cons (pe_m0' cn.cls M.row hr (by decide) (pv 1)) pa_nil))))) pa_nil)) (pe_callB (call_reprX hg hu64) (by rfl) T.zrepr (by decide +kernel) (pa_cons (pv 2) pa_nil)) (nomark _)) (pss_one (ps_ret pe_bl)) pss_nil)
      (pss_cons (ps_set (i := 3) scLike.nd rfl (.inl rfl) (pe_k cN hg hr (by decide) (by rfl) (pa_cons (pe_dget hu (pv 0) pe_str (fun _ _ => rfl)) (pa_cons (pe_dget hu (pv 0) pe_str (fun _ _ => rfl)) pa_nil))))
      (pss_cons (ps_for PassesOwn.never rfl (pi_list (pe_lst (pa_cons (pe_ix ix_list (pv 3) pe_int (fun _ _ => rfl)) (pa_cons (pe_ix ix_list (pv 3) (pe_un un_neg pe_int) (fun _ _ => rfl)) (pa_cons (pe_op op_add (pe_ix ix_list (pv 3) (pe_un un_neg pe_int) (fun _ _ => rfl)) (pe_op op_mul pe_int (pe_dget hu (pv 0) pe_str (fun _ _ => rfl)))) (pa_cons (pe_op op_sub (pe_ix ix_list (pv 3) pe_int (fun _ _ => rfl)) (pe_dget hu (pv 0) pe_str (fun _ _ => rfl))) pa_nil)))))) (pg_name (i := 4) scLike.nd rfl (.inl rfl))
        (pss_one (ps_if (pt_cmpR op_ne (pe_callB (call_reprX hg hu64) (by rfl) T.zrepr (by decide +kernel) (pa_cons (pe_m cn.cls M.at_ hr (by decide) (pv 1) (pa_cons (pv 4) pa_nil)) pa_nil)) (pe_callB (call_reprX hg hu64) (by rfl) T.zrepr (by decide +kernel) (pa_cons (pe_k cV hg hr (by decide) (by rfl) (pa_cons (pv 0) (pa_cons (pv 4) pa_nil))) pa_nil)) (nomark _)) (pss_one (ps_ret pe_bl)) pss_nil)))
      (pss_one (ps_ret pe_bl)))))), ?_⟩
    obtain ⟨kvs, sa, ea, ra, h0, v1, v2, v3, v4, h5, h6, h7⟩ := dl.ex
    obtain ⟨dx, fs, ix, a1, a2, a3, a4, a5⟩ := ld_ins ld
    refine ⟨_, rfl, D, _, rfl, dgetK h0 v1, _, rfl, D, _, rfl, dgetK h0 v2, _, rfl, D, _, rfl, dgetK h0 v3, _, rfl, D, _, rfl, dgetK h0 v4, (by show 4 ≤ sizeLine; decide), fun l nl => ?_⟩
    have s1' := same_new (H := H) (o := .lst [.ref sa, .ref ea, .int L.n, .ref ra]) nl
    have hl := upd_same (H := H) (a := l) (o := .lst [.ref sa, .ref ea, .int L.n, .ref ra])
    revert s1' hl
    generalize upd H l (.lst [.ref sa, .ref ea, .int L.n, .ref ra]) = H1
    intro q1 hl
    have ld1 := ld.same q1
    -- repr of both
    refine ⟨_, rfl, x, dx, fs, rfl, q1 _ _ ix, a1, x, L, F, rfl, ld1, fun t1 ht1 => ?_⟩
    refine ⟨_, rfl, x, dx, fs, rfl, q1 _ _ ix, a2, x, L, F, rfl, ld1, fun t2 ht2 => ?_⟩
    refine ⟨_, rfl, x, dx, fs, rfl, q1 _ _ ix, a3, x, L, F, rfl, ld1, ?_⟩
    refine ⟨_, rfl, x, dx, fs, rfl, q1 _ _ ix, a4, x, L, F, rfl, ld1, fun t3 nt3 => ?_⟩
    refine ⟨(by show 4 ≤ sizeLine; decide), fun t4 nt4 => ?_⟩
    have q2 := same_new (H := H1) (o := .lst ((rowOf L F).map V.int)) nt3
    have ht3 := upd_same (H := H1) (a := t3) (o := .lst ((rowOf L F).map V.int))
    have q3 := same_new (o := .lst [.ref t1, .ref t2, .int L.n, .ref t3]) nt4
    have ht4 := upd_same (H := upd H1 t3 (.lst ((rowOf L F).map V.int))) (a := t4) (o := .lst [.ref t1, .ref t2, .int L.n, .ref t3])
    have ht3 := q3 _ _ ht3
    have q23 := q2.trans q3
    revert q23 ht3 ht4
    generalize upd (upd H1 t3 (.lst ((rowOf L F).map V.int))) t4 (.lst [.ref t1, .ref t2, .int L.n, .ref t3]) = H2
    intro ht4 ht3 q23
    have q12 := q1.trans q23
    have rbig : ∀ z, z ∈ rowOf L F → (z : Int).natAbs < 10 ^ 40 := fun z hz => by
      obtain ⟨v, hv, rfl⟩ := List.mem_map.mp hz
      exact Nat.lt_trans (big.v v hv) (by decide)
    have four := med_four (med_two big.f (show L.s.natAbs < 10 ^ 40 by omega)) (med_two big.g (show L.r.natAbs < 10 ^ 40 by have := ok.sem.r0; have := ok.r1; omega)) (med_int (show L.n.natAbs < 10 ^ 40 by omega)) (med_row rbig (by rw [row_len]; exact few))
    refine ⟨_, _, rfl, .lst (SqL.of ht4) (.cons (.tup (SqT.of (q23 _ _ ht1)) (.cons (.int _) (.cons (.int _) .nil))) (.cons (.tup (SqT.of (q23 _ _ ht2)) (.cons (.int _) (.cons (.int _) .nil))) (.cons (.int _) (.cons (.lst (SqL.of ht3) (dxAll_ints _)) .nil)))), four.1, four.2.1, four.2.2, ?_⟩
    refine ⟨_, rfl, _, _, rfl, .lst (SqL.of (q23 _ _ hl)) (.cons (.tup (SqT.of (q12 _ _ h5)) (.cons (.int _) (.cons (.int _) .nil))) (.cons (.tup (SqT.of (q12 _ _ h6)) (.cons (.int _) (.cons (.int _) .nil))) (.cons (.int _) (.cons (.lst (SqL.of (q12 _ _ h7)) (dxAll_ints _)) .nil)))), four.1, four.2.1, four.2.2, ?_⟩
    refine ⟨rfl, false, by rw [decide_eq_true rfl]; rfl, iteF ?_⟩
    -- the numbers
    obtain ⟨n, en⟩ := Int.eq_ofNat_of_zero_le (show 0 ≤ L.n by omega)
    refine ⟨_, rfl, D, _, rfl, dgetK (q12 _ _ h0) v1, _, rfl, D, _, rfl, dgetK (q12 _ _ h0) v3, sa, L.f, L.s, n, by rw [en]; rfl, q12 _ _ h5, s0, s1, by rw [← en]; exact ok.sem.sd, by omega, fun p H3 np q34 hp => ?_⟩
    rw [← en] at hp
    have q13 := q12.trans q34
    have lenp : ((nums L.f L.s L.n).map V.int).length = (L.n / L.s).toNat := by rw [List.length_map, nums_len]
    have e0 : atI ((nums L.f L.s L.n).map V.int) 0 = some (.int (L.f % L.s + ((0 : Nat) : Int) * L.s)) := at_of (j := 0) rfl (by rw [List.getElem?_map, nums_at pos]; rfl)
    have hlt : (L.n / L.s).toNat - 1 < (L.n / L.s).toNat := by omega
    have e1 : atI ((nums L.f L.s L.n).map V.int) (-1) = some (.int (L.f % L.s + (((L.n / L.s).toNat - 1 : Nat) : Int) * L.s)) := by
      unfold atI ixN
      rw [if_neg (by omega), lenp, if_pos (by omega)]
      show ((nums L.f L.s L.n).map V.int)[((-1 : Int) + ((L.n / L.s).toNat : Int)).toNat]? = _
      rw [show ((-1 : Int) + ((L.n / L.s).toNat : Int)).toNat = (L.n / L.s).toNat - 1 by omega, List.getElem?_map, nums_at hlt]
      rfl
    have m0 := (mem_nums (f := L.f) s0 ok.sem.sd).mp (List.mem_of_getElem? (nums_at pos))
    have m1 := (mem_nums (f := L.f) s0 ok.sem.sd).mp (List.mem_of_getElem? (nums_at hlt))
    revert e0 e1 m0 m1
    generalize L.f % L.s + ((0 : Nat) : Int) * L.s = w0
    generalize L.f % L.s + (((L.n / L.s).toNat - 1 : Nat) : Int) * L.s = w1
    intro e0 e1 m0 m1
    refine ⟨_, rfl, p, _, _, _, rfl, rfl, SqL.of hp, e0, _, rfl, 1, rfl, p, _, _, _, rfl, rfl, SqL.of hp, e1, ?_⟩
    refine ⟨_, rfl, 1, rfl, p, _, _, _, rfl, rfl, SqL.of hp, e1, _, rfl, D, _, rfl, dgetK (q13 _ _ h0) v3, _, _, rfl, rfl, .inl ⟨by decide, by decide⟩, _, _, rfl, rfl, ?_⟩
    refine ⟨_, rfl, p, _, _, _, rfl, rfl, SqL.of hp, e0, _, rfl, D, _, rfl, dgetK (q13 _ _ h0) v3, _, _, rfl, rfl, (by show 4 ≤ sizeLine; decide), fun u nu => ?_⟩
    have hu4 := upd_same (H := H3) (a := u) (o := .lst ([w0, w1, w1 + 3 * L.n, w0 - L.n].map V.int))
    have q4 := q13.trans (same_new (H := H3) (o := .lst ([w0, w1, w1 + 3 * L.n, w0 - L.n].map V.int)) nu)
    refine ⟨u, rfl, ⟨_, SqL.of hu4⟩, ?_⟩
    refine for_it (walk_list (xs := [w0, w1, w1 + 3 * L.n, w0 - L.n].map V.int)) (fun j σ H5 => ∃ (v4 : Option V), σ = [some (.ref D), some (.ref x), some (.ref l), some (.ref p), v4] ∧ Same H H5 ∧ H5 u = some (.lst ([w0, w1, w1 + 3 * L.n, w0 - L.n].map V.int))) ⟨_, rfl, q4, hu4⟩ (fun j σ H5 _ ⟨_, _, _, z⟩ => SqL.of z) ?_ ?_
    · rintro j y σ H5 H5b hj ⟨v4, rfl, q5, hu5⟩ ⟨rfl, hy⟩
      obtain ⟨v, hv, rfl⟩ := int_at hy
      have vv : (v - L.f) % L.s = 0 ∧ -3600 ≤ v ∧ v ≤ 4 * 3600 := by
        have m := List.mem_of_getElem? hv
        simp only [List.mem_cons, List.not_mem_nil, or_false] at m
        rcases m with rfl | rfl | rfl | rfl
        · exact ⟨m0.2.2, by omega, by omega⟩
        · exact ⟨m1.2.2, by omega, by omega⟩
        · exact ⟨on_mul ok.sem.sd m1.2.2, by omega, by omega⟩
        · refine ⟨?_, by omega, by omega⟩
          have q := on_mul (k := -1) ok.sem.sd m0.2.2
          rw [show w0 + -1 * L.n = w0 - L.n by omega] at q
          exact q
      obtain ⟨von, vlo, vhi⟩ := vv
      obtain ⟨i, hi, ei, ev⟩ := place_of s0 n0 ok.sem.sd von
      have val : valL L.s L.n (rowOf L F) v = F v := ok.sem.val von
      have em := Int.emod_add_mul_ediv v L.n
      have b0 := Int.emod_nonneg v (show L.n ≠ 0 by omega)
      have b1 := Int.emod_lt_of_pos v n0
      have vm := (mem_nums s0 ok.sem.sd).mpr ⟨b0, b1, on_rest ok.sem.sd von⟩
      have fb := big.v _ vm
      have fe : F v = F (v % L.n) + (v - v % L.n) := by
        have q := ok.sem.perz (on_rest ok.sem.sd von) (v / L.n)
        rw [show v % L.n + v / L.n * L.n = v by rw [Int.mul_comm (v / L.n)]; omega] at q
        rw [q, Int.mul_comm (v / L.n)]
        omega
      have fs40 : (F v).natAbs < 10 ^ 40 := by rw [fe]; omega
      have sm := Sm.one (sm_int fs40)
      refine ⟨_, rfl, x, dx, fs, rfl, q5 _ _ ix, a5, _, rfl, x, L, F, v, rfl, ld.same q5, ok, von, ?_⟩
      refine ⟨_, _, rfl, .int _, sm.1, sm.2.1, sm.2.2, ?_⟩
      refine ⟨_, rfl, _, rfl, D, L.f, L.s, L.g, L.r, L.n, v, rowOf L F, rfl, dl.same q5, s0, s1, n0, n1, by rw [ei, row_len]; omega, ?_⟩
      rw [val]
      refine ⟨_, _, rfl, .int _, sm.1, sm.2.1, sm.2.2, ?_⟩
      exact ⟨rfl, false, by rw [decide_eq_true rfl]; rfl, iteF ⟨_, rfl, q5, hu5⟩⟩
    · rintro σ H5 ⟨v4, rfl, q5, hu5⟩
      exact k H5 q5
end
end L15
namespace Rt
open PySem PySem.Spec L2
open PyProof.Rows hiding St
/-! ### methods of lists and len in comprehensions: the world of the element is not named in what they ask -/
theorem pe_bmK {X : Cx} {K : PySem.W.Frag} {o e : Expr} {es : List Expr} {to : TE} {t : TA} {name : Str} {apos cpos : Pos} {T id : String} {r : V → List V → Hp → VK → Prop} (hK : X.K = K) (pa : PlainAttrs T) (slot : Slot T name id) (hty : typeOf (.builtin id) = pure (.type "method_descriptor")) (hm : MtR X id r) (ho : PE X o to) (ha : PA X (e :: es) t)
    (hbase : attributeBase o name X.env (eval o X.env) = eval o X.env := by rfl)
    (hfew : ((backTo cpos (starEach (e :: es) X.env)).all (fun x => !x.1) && (backToKw cpos (keywordEach [] X.env)).all (fun x => x.1.isSome)
      && decide ((e :: es).length + ([] : List Keyword).length + (if ([] : List Keyword).isEmpty then 0 else 1) < 30)) = true := by rfl)
    (hline : (apos.endLine == cpos.line) = true := by rfl) (hs : starEach (e :: es) X.env = (false, eval e X.env) :: starEach es X.env := by rfl) (hplain : (backTo cpos (starEach es X.env)).any (·.1) = false := by rfl) :
    PE X (.Call (.Attribute o name apos) (e :: es) [] cpos) (tBM K T r to t) := by
  subst hK
  exact pe_bm pa slot hty hm ho ha hbase hfew hline hs hplain
def rLenS (K : PySem.W.Frag) : List V → Hp → VK → Prop := fun xs H Q => ∃ p ys, xs = [V.ref p] ∧ (SqL K H p ys ∨ SqT K H p ys) ∧ Q (.int ((ys.length : Nat) : Int)) H
theorem call_lenK {X : Cx} {K : PySem.W.Frag} (hK : X.K = K) : CallR X (.builtin "len") (rLenS K) := by
  subst hK
  exact call_len_seq
end Rt
namespace Ld
open PySem PySem.Spec L2 Rt Rs
open PyProof.Rows hiding St
/-! ### back of a lead: the greatest number whose lead is not above u -/
structure IsBack (f s : Int) (F : Int → Int) (u v : Int) : Prop where
  on : (v - f) % s = 0
  le : F v ≤ u
  lt : u < F (v + s)
open Classical in
noncomputable def backF (f s : Int) (F : Int → Int) (u : Int) : Int := if h : ∃ v, IsBack f s F u v then Classical.choose h else 0
section
variable {f s g r n : Int} {F : Int → Int}
theorem on_step {f s v : Int} (h : (v - f) % s = 0) : (v + s - f) % s = 0 := by
  rw [show v + s - f = v - f + s by omega, Int.add_emod_right]
  exact h
theorem on_gap {f s v w : Int} (s0 : 0 < s) (hv : (v - f) % s = 0) (hw : (w - f) % s = 0) (lt : v < w) : v + s ≤ w := by
  obtain ⟨k, e⟩ := steps_between s0 hv hw (Int.le_of_lt lt)
  match k, e with
  | 0, e => simp at e; omega
  | k + 1, e =>
    have : (0 : Int) ≤ (k : Int) * s := Int.mul_nonneg (by omega) (by omega)
    rw [show ((k + 1 : Nat) : Int) = (k : Int) + 1 by omega, Int.add_mul] at e
    omega
theorem back_go {u v : Int} (hv : (v - f) % s = 0) (le : F v ≤ u) : ∀ m : Nat, u < F (v + (m : Int) * s) → ∃ w, IsBack f s F u w
  | 0, h => by
    rw [show v + ((0 : Nat) : Int) * s = v by simp] at h
    omega
  | m + 1, h => by
    by_cases q : F (v + (m : Int) * s) ≤ u
    · refine ⟨v + (m : Int) * s, ?_, q, ?_⟩
      · rw [show v + (m : Int) * s - f = v - f + (m : Int) * s by omega, Int.add_mul_emod_self_right]
        exact hv
      · rw [show v + (m : Int) * s + s = v + ((m + 1 : Nat) : Int) * s by rw [show ((m + 1 : Nat) : Int) = (m : Int) + 1 by omega, Int.add_mul]; omega]
        exact h
    · exact back_go hv le m (by omega)
theorem Sem.back_ex (h : Sem f s g r n F) (u : Int) : ∃ v, IsBack f s F u v := by
  have n0 := h.n0
  have hf : (f - f) % s = 0 := by simp
  have e := Int.emod_add_mul_ediv (u - F f) n
  have e1 := Int.emod_nonneg (u - F f) (show n ≠ 0 by omega)
  have e2 := Int.emod_lt_of_pos (u - F f) n0
  have p := h.perz hf ((u - F f) / n)
  have p2 := h.per (f + (u - F f) / n * n) (on_mul h.sd hf)
  rw [Int.mul_comm] at e
  obtain ⟨q, eq⟩ := h.sd
  have q0 : 0 < q := Int.pos_of_mul_pos_right (by rw [← eq]; exact n0) h.s0
  refine back_go (v := f + (u - F f) / n * n) (on_mul h.sd hf) (by omega) q.toNat ?_
  rw [show ((q.toNat : Nat) : Int) = q by omega, Int.mul_comm q s, ← eq]
  omega
theorem Sem.back_is (h : Sem f s g r n F) (u : Int) : IsBack f s F u (backF f s F u) := by
  unfold backF
  rw [dif_pos (h.back_ex u)]
  exact Classical.choose_spec (h.back_ex u)
theorem Sem.back_le (h : Sem f s g r n F) {u v w : Int} (b : IsBack f s F u v) (hw : (w - f) % s = 0) (le : F w ≤ u) : w ≤ v := by
  refine Int.not_lt.mp fun lt => ?_
  have := h.mono _ _ (on_step b.on) hw (on_gap h.s0 b.on hw lt)
  have := b.lt
  omega
theorem Sem.back_eq (h : Sem f s g r n F) {u v : Int} (b : IsBack f s F u v) : backF f s F u = v :=
  Int.le_antisymm (h.back_le b (h.back_is u).on (h.back_is u).le) (h.back_le (h.back_is u) b.on b.le)
theorem Sem.back (h : Sem f s g r n F) : Sem g r f s n (backF f s F) :=
  ⟨h.r0, h.s0, h.n0, h.rd, h.sd, fun v _ => (h.back_is v).on, fun u w _ _ le => h.back_le (h.back_is w) (h.back_is u).on (Int.le_trans (h.back_is u).le le), fun u _ => h.back_eq (by
    have b := h.back_is u
    refine ⟨on_add h.sd b.on, ?_, ?_⟩
    · rw [h.per _ b.on]
      have := b.le
      omega
    · rw [show backF f s F u + n + s = backF f s F u + s + n by omega, h.per _ (on_step b.on)]
      have := b.lt
      omega)⟩
theorem Sem.back_comp {g' r' e : Int} {G : Int → Int} (h : Sem f s g r n F) (k : Sem g' r e r' n G) (al : (g - g') % r = 0) (w : Int) : backF f s (fun v => G (F v)) w = backF f s F (backF g' r G w) := by
  refine (h.comp (s' := s) k al).back_eq ?_
  have b := h.back_is (backF g' r G w)
  have c := k.back_is w
  have al2 : ∀ x, (x - g) % r = 0 → (x - g') % r = 0 := fun x hx => by
    rw [show x - g' = (x - g) + (g - g') by omega, Int.add_emod, hx, al]
    simp
  have o1 := al2 _ (h.on _ b.on)
  have o2 := al2 _ (h.on _ (on_step b.on))
  exact ⟨b.on, Int.le_trans (k.mono _ _ o1 c.on b.le) c.le, Int.lt_of_lt_of_le c.lt (k.mono _ _ (on_step c.on) o2 (on_gap k.s0 c.on o2 b.lt))⟩
theorem back_stay (s0 : 0 < s) {v : Int} (hs : Sem f s f s n (fun x => x)) (hv : (v - f) % s = 0) : backF f s (fun x => x) v = v := hs.back_eq ⟨hv, Int.le_refl _, by show v < v + s; omega⟩
theorem Sem.back_max {G : Int → Int} (h : Sem f s g r n F) (k : Sem f s g r n G) (m : Sem f s g r n (fun v => if G v > F v then G v else F v)) (u : Int) : backF f s (fun v => if G v > F v then G v else F v) u = if backF f s G u < backF f s F u then backF f s G u else backF f s F u := by
  refine m.back_eq ?_
  have b := h.back_is u
  have c := k.back_is u
  split
  · rename_i lt
    have q := h.mono _ _ c.on b.on (Int.le_of_lt lt)
    refine ⟨c.on, ?_, ?_⟩
    · have := b.le
      have := c.le

      split <;> omega
    · have := c.lt

      split <;> omega
  · rename_i lt
    have q := k.mono _ _ b.on c.on (by omega)
    refine ⟨b.on, ?_, ?_⟩
    · have := b.le
      have := c.le

      split <;> omega
    · have := b.lt

      split <;> omega
theorem Sem.back_box (h : Sem f s g r n F) {v : Int} (hv : (v - f) % s = 0) : backF f s F (F v - r) < v ∧ v ≤ backF f s F (F v) := by
  refine ⟨Int.not_le.mp fun le => ?_, h.back_le (h.back_is _) hv (Int.le_refl _)⟩
  have b := h.back_is (F v - r)
  have := h.mono _ _ hv b.on le
  have := b.le
  have := h.r0
  omega
theorem back_rule {c u : Int} (s0 : 0 < s) (r0 : 0 < r) (h : Sem f s g r n (fun v => upv g r (v + c))) (hu : (u - g) % r = 0) : backF f s (fun v => upv g r (v + c)) u = if (u - c - f) % s = 0 then upv f s (u - c) else upv f s (u - c) - s := by
  refine h.back_eq ?_
  have l1 := upv_le (f := f) (s := s) (x := u - c) s0
  split
  · rename_i on
    have e : upv f s (u - c) = u - c := Int.le_antisymm (upv_least s0 (Int.le_refl _) on) l1
    rw [e]
    refine ⟨on, ?_, ?_⟩
    · show upv g r (u - c + c) ≤ u
      exact upv_least r0 (by omega) hu
    · show u < upv g r (u - c + s + c)
      have := upv_le (f := g) (s := r) (x := u - c + s + c) r0
      omega
  · rename_i off
    have o := upv_on f s (u - c)
    have o2 : (upv f s (u - c) - s - f) % s = 0 := on_sub o
    have ne : upv f s (u - c) ≠ u - c := fun e => off (by rw [← e]; exact o)
    have lt : upv f s (u - c) - s < u - c := Int.not_le.mp fun le => by
      have := upv_least s0 le o2
      omega
    refine ⟨o2, ?_, ?_⟩
    · show upv g r (upv f s (u - c) - s + c) ≤ u
      exact upv_least r0 (by omega) hu
    · show u < upv g r (upv f s (u - c) - s + s + c)
      have := upv_le (f := g) (s := r) (x := upv f s (u - c) - s + s + c) r0
      omega
end
end Ld
namespace L15
open PySem PySem.Spec L2 Rt Rs Ld
open PyProof.Rows hiding St

abbrev sLInt : Stmt := top 23
abbrev sLOn : Stmt := top 24
def spMixed : Sp := fun vs H Q _ => ∃ (d c p : Addr) (zs : List Int), vs = [.ref d, .ref p] ∧ Src H d c ∧ mask d c H p = some (.lst (zs.map V.int)) ∧ zs.length ≤ 3600 ∧
  ∀ (q : Addr) (ys : List Int) (H' : Hp), Src H' d c → Keep d c H H' → mask d c H' q = some (.lst (ys.map V.int)) → (∀ y, y ∈ ys → y ∈ zs) → ys.length ≤ 3600 → Q (.ref q) H'
def spLBack : Sp := fun vs H Q _ => ∃ (D : Addr) (L : LP) (F : Int → Int) (u : Int), vs = [.ref D, .int u] ∧ DL H D L.f L.s L.g L.r L.n (rowOf L F) ∧ LOk L F ∧ Q (.int (backF L.f L.s F u)) H
theorem row_at0 {L : LP} {F : Int → Int} (h : 0 < (L.n / L.s).toNat) : atI ((rowOf L F).map V.int) 0 = some (.int (F (L.f % L.s))) := by
  have e := row_at (F := F) h
  cases q : rowOf L F with
  | nil =>
    rw [q] at e
    cases e
  | cons x xs =>
    rw [q] at e
    have e2 : x = F (L.f % L.s + ((0 : Nat) : Int) * L.s) := Option.some.inj e
    rw [List.map_cons, atI_0, e2]
    simp
theorem mask_ne {d c b : Addr} {H : Hp} {o : HO} (h : mask d c H b = some o) : b ≠ d ∧ b ≠ c := by
  unfold mask at h
  refine ⟨fun z => ?_, fun z => ?_⟩
  · rw [if_pos (.inl z)] at h
    cases h
  · rw [if_pos (.inr z)] at h
    cases h
theorem LOk.idx {L : LP} {F : Int → Int} (ok : LOk L F) {v : Int} (hv : (v - L.f) % L.s = 0) : v % L.n / L.s < ((rowOf L F).length : Int) := by
  obtain ⟨i, hi, ei, _⟩ := place_of ok.sem.s0 ok.sem.n0 ok.sem.sd hv
  rw [ei, row_len]
  omega
theorem erase_map (f : Int → V) : ∀ (l : List Int) (k : Nat), (l.map f).eraseIdx k = (l.eraseIdx k).map f
  | [], _ => rfl
  | a :: l, 0 => rfl
  | a :: l, k + 1 => congrArg (f a :: ·) (erase_map f l k)
theorem none_but {H : Hp} {R D : Addr} {o : HO} (n : upd H R o D = none) : H D = none ∧ D ≠ R := by
  by_cases e : D = R
  · subst e
    rw [upd_same] at n
    cases n
  · rw [upd_ne e] at n
    exact ⟨n, e⟩

section
variable {P : Program} {w : World} {K : PySem.W.Frag} {mg : Str → Option Value} {base : Heap} {f C : Addr} {fd : FuncData}

theorem scLInt : FnScope ["value"] ["value"] (defScope sLInt) := ⟨rfl, rfl, rfl, by decide +kernel, rfl, by decide +kernel, by decide +kernel⟩
theorem ok_lInt (F : Fun K "_law_is_integer" "_law_is_integer" sLInt f fd) (T : Wds mg) : FnG P w K mg base 1 f fd ["value"] spIsInt := by
  refine okG F scLInt (fun vs H Q E h => ?_) (fun cdv A outer s H vs Q E hg hr h => ?_)
  · obtain ⟨v, rfl, _⟩ := h
    rfl
  · obtain ⟨v, rfl, ho, k⟩ := h
    obtain ⟨T1, b1, b2, ty, k1, k2, e⟩ := od_type (K := K) ho
    refine ⟨_, (pss_one (ps_ret (pe_and (pe_callB call_isi (by rfl) T.zisinstance (by decide +kernel) (pa_cons (pv 0) (pa_cons (pe_bltn (v := .ty "int") (by rfl) T.zint (by decide +kernel) rfl) pa_nil))) (pe_one (pe_not (pe_callB call_isi (by rfl) T.zisinstance (by decide +kernel) (pa_cons (pv 0) (pa_cons (pe_bltn (v := .ty "bool") (by rfl) T.zbool (by decide +kernel) rfl) pa_nil)))))))), ?_⟩
    refine ⟨_, rfl, v, .ty "int", _, .type "int", b1, rfl, .ty _, ty, kit_ty k1, b1, rfl, ?_⟩
    cases b1 with
    | true =>
      refine iteT ?_
      refine ⟨_, rfl, v, .ty "bool", _, .type "bool", b2, rfl, .ty _, ty, kit_ty k2, b2, rfl, ?_⟩
      rw [show (!b2) = isI v from by simpa using e]
      exact k
    | false =>
      refine iteF ?_
      rw [show false = isI v from by simpa using e]
      exact k
theorem scLOn : FnScope ["clock", "value"] ["clock", "value"] (defScope sLOn) := ⟨rfl, rfl, rfl, by decide +kernel, rfl, by decide +kernel, by decide +kernel⟩
theorem ok_lOn (F : Fun K "_law_is_on" "_law_is_on" sLOn f fd) (T : Wds mg) (cI : Cb P w K mg base 1 "_law_is_integer" spIsInt) : FnG P w K mg base 2 f fd ["clock", "value"] spOn := by
  refine okG F scLOn (fun vs H Q E h => ?_) (fun cdv A outer s H vs Q E hg hr h => ?_)
  · obtain ⟨t, f, s, v, rfl, _⟩ := h
    rfl
  · obtain ⟨t, f, s, v, rfl, ht, hs, ho, k⟩ := h
    refine ⟨_, (pss_one (ps_ret (pe_and (pe_k cI hg hr (by decide) (by rfl) (pa_cons (pv 1) pa_nil)) (pe_one (pe_cmpR op_eq (pe_op op_mod (pe_callTy call_int1 (by rfl) T.zint (by decide +kernel) (pa_cons (pe_op op_sub (pv 1) (pe_ix ix_tup (pv 0) pe_int (fun _ _ => rfl))) pa_nil)) (pe_ix ix_tup (pv 0) pe_int (fun _ _ => rfl))) pe_int (nomark _)))))), ?_⟩
    refine ⟨_, rfl, v, rfl, ho, _, rfl, ?_⟩
    cases v with
    | int i =>
      refine iteT ?_
      refine ⟨_, rfl, _, rfl, t, _, _, _, rfl, rfl, SqT.of ht, at0, _, _, rfl, rfl, .inl ⟨_, rfl, _, rfl, t, _, _, _, rfl, rfl, SqT.of ht, at1, _, _, rfl, rfl, hs, rfl, ?_⟩⟩
      rw [dec_V]
      exact k
    | _ => exact iteF k
end
end L15
namespace Rt
open PySem PySem.Spec L2
open PyProof.Rows hiding St
/-! ### for over what is a list or a tuple -/
def seqR (K : PySem.W.Frag) (R : It → Hp → Prop) (a : Addr) (H : Hp) : Prop := ((∃ xs, SqL K H a xs) ∧ R (Itl K a) H) ∨ ((∃ xs, SqT K H a xs) ∧ R (Itt K a) H)
def iSeq (K : PySem.W.Frag) (tl : TE) : TI := fun σ H R => tl σ H fun x H1 => ∃ a, x = .ref a ∧ seqR K R a H1
theorem pi_seq {X : Cx} {tg l : Expr} {tl : TE} (hl : PE X l tl) : PI X tg l (iSeq X.K tl) := by
  refine ⟨fun pins s σ H R I h => ?_⟩
  refine thn (hl.run pins s σ H _ I h) fun v s1 ⟨x, H1, I1, r1, q1⟩ => ?_
  obtain ⟨a, e, q1⟩ := q1
  subst e
  cases r1
  rcases q1 with ⟨⟨xs, hq⟩, q⟩ | ⟨⟨xs, hq⟩, q⟩
  · obtain ⟨its, rv, p, hz⟩ := I1.list hq
    refine wpAny_pyIter_list p.isList ?_
    refine ⟨s1.heap.objs.size, [s1.heap.objs.size], _, _, H1, rfl, I1.kept (t' := s1.toks) fun b o e => Heap.get?_push_of_some _ e, turn_list a _, ⟨_, Heap.get?_push_size _ rfl, rfl, rfl⟩, fun b hb => ?_, q⟩
    have e : b = s1.heap.objs.size := by simpa using hb
    subst e
    exact I1.fpOk (Nat.le_refl _) (I1.hok.fresh (Nat.le_refl _))
  · obtain ⟨its, rv, p, hz⟩ := I1.tuple hq
    refine wpAny_pyIter_tuple (show s1.heap.IsTuple a its.toArray from p) ?_
    refine ⟨s1.heap.objs.size, [s1.heap.objs.size], _, _, H1, rfl, I1.kept (t' := s1.toks) fun b o e => Heap.get?_push_of_some _ e, turn_tuple a _, ⟨_, Heap.get?_push_size _ rfl, rfl, rfl⟩, fun b hb => ?_, q⟩
    have e : b = s1.heap.objs.size := by simpa using hb
    subst e
    exact I1.fpOk (Nat.le_refl _) (I1.hok.fresh (Nat.le_refl _))
end Rt
namespace Rt
open PySem PySem.Spec L2 LamX
open PyProof.Rows hiding St
/-! ### told: try: return (word, a()) / except X: return (word,) -/
def TToldT (K : PySem.W.Frag) (CS : Addr) (yes no : Str) : (XK → Hp → VK → Prop) → Hp → VK → Prop := fun tl H Q =>
  tl (fun cls _ H' => ∃ b, PySem.W.exmOne K cls (.ref CS) = some b ∧ (b = true → [V.str no].length ≤ sizeLine ∧ ∀ p, H' p = none → Q (.ref p) (upd H' p (.tup [.str no]))) ∧ (b = false → False)) H fun v H' => [V.str yes, v].length ≤ sizeLine ∧ ∀ p, H' p = none → Q (.ref p) (upd H' p (.tup [.str yes, v]))
section
variable {X : Cx}
theorem told_givesT {Ng : List Str} {x a e q yes no : Str} {sg : Scope} {g CS : Addr} {cdg : Value} {j1 j2 k1 k2 : Nat} {p1 p2 p3 p4 p6 p7 p8 t1 t2 t3 t4 : Pos} (hge : sg.names.lookup e = some .globalImplicit) (hme : X.mg e = some (.ref CS)) (hde : (e == ("__debug__" : Str)) = false) (h0 : ∀ f : Addr, (L2.start Ng [V.ref f])[0]? = some (some (V.ref f))) :
    GivesTo X Ng x sg g cdg [.Try [.Return (some (.Tuple [.Constant (.str yes) j1 t1, .Call (.Name a p1) [] [] p2] k1 t2)) p3] [.ExceptHandler (some (.Name e p4)) none [.Return (some (.Tuple [.Constant (.str no) j2 t3] k2 t4)) p6] p7] [] [] p8] a q (TToldT X.K CS yes no) := by
  intro f c' s H Q tl act hc h
  have hgl : Gl (cxOf C8.CX0 X.prog X.w X.K X.mg X.base Ng x sg g cdg X.A X.stack s H C8.E0).nox e := hge
  refine ⟨_, pss_one (ps_try_only (X := (cxOf C8.CX0 X.prog X.w X.K X.mg X.base Ng x sg g cdg X.A X.stack s H C8.E0).nox) (c := .ref CS)
      (tb := fun W D σ H => ∃ Ech : XK, (∀ cls d σ' H', Ech cls d H' → W cls d σ' H') ∧ σ[0]? = some (some (.ref f)) ∧ H c' = some (CodeO c' q) ∧ tl Ech H fun v H' => [V.str yes, v].length ≤ sizeLine ∧ ∀ p, H' p = none → D.rt (.ref p) (upd H' p (.tup [.str yes, v])))
      rfl rfl ⟨hgl, hde, .inl hme⟩ LamX.takes0 (fun W pn xe tk _ => ?_) (fun a oe cls d pn _ _ => pss_one (ps_ret (pe_tup (pa_cons pe_str pa_nil))))), ?_⟩
  · refine ⟨fun pins s' σ H' D I h' => ?_⟩
    obtain ⟨Ech, hW, h1, h2, h3⟩ := h'
    have hp := act W pn xe Ech p1 p2 tk hW
    have hq := pss_one (ps_ret (pos := p3) (pe_tup (x1 := k1) (pos := t2) (pa_cons (pe_str (x := yes) (j := j1) (pos := t1)) (pa_cons hp pa_nil))))
    exact hq.run pins s' σ H' D I ⟨h1, h2, h3⟩
  · exact ⟨fun cls _ H' => ∃ b, PySem.W.exmOne X.K cls (.ref CS) = some b ∧ (b = true → [V.str no].length ≤ sizeLine ∧ ∀ p, H' p = none → Q (.ref p) (upd H' p (.tup [.str no]))) ∧ (b = false → False), fun cls d σ' H' ⟨b, e1, e2, e3⟩ => ⟨b, e1, fun hb a _ => e2 hb, fun hb => e3 hb⟩, h0 f, hc, h⟩
end
end Rt
namespace Rt
open PySem PySem.Spec L2 LamX
open PyProof.Rows hiding St
/-! ### several except clauses, with names or without -/
abbrev Suite := Addr → Value → Option Addr → TS
inductive HdsA (X : Cx) : List ExceptHandler → List (Value × Option Nat × Suite) → Prop
  | none : HdsA X [] []
  | bare {x : Str} {c : Value} {ts : Suite} {s0 : Stmt} {more : List Stmt} {p q : Pos} {hds : List ExceptHandler} {l : List (Value × Option Nat × Suite)} (nm : Names X x c)
      (su : ∀ (a : Addr) (oe : Obj) (cls : Value) (d : Option Addr) (pn : List (Addr × Obj)), Zc cls d oe → (∃ vs, oe.data = .fields vs) → PSs (X.suite a ((a, oe) :: pn)) (s0 :: more) (ts a cls d)) (r : HdsA X hds l) :
      HdsA X (.ExceptHandler (some (.Name x p)) Option.none (s0 :: more) q :: hds) ((c, Option.none, ts) :: l)
  | named {x n : Str} {i : Nat} {c : Value} {ts : Suite} {s0 : Stmt} {more : List Stmt} {p q : Pos} {hds : List ExceptHandler} {l : List (Value × Option Nat × Suite)} (nm : Names X x c) (at_ : X.N[i]? = some n) (loc : X.env.kindOf n = some .local)
      (su : ∀ (a : Addr) (oe : Obj) (cls : Value) (d : Option Addr) (pn : List (Addr × Obj)), Zc cls d oe → (∃ vs, oe.data = .fields vs) → PSs (X.suite a ((a, oe) :: pn)) (s0 :: more) (ts a cls d)) (r : HdsA X hds l) :
      HdsA X (.ExceptHandler (some (.Name x p)) (some n) (s0 :: more) q :: hds) ((c, some i, ts) :: l)
/-- behind a suite the clause's name is gone -/
def unset (D : Ends) (i : Nat) : Ends := { nx := fun σ H => D.nx (σ.set i none) H, rt := D.rt, bk := fun σ H => D.bk (σ.set i none) H, ct := fun σ H => D.ct (σ.set i none) H }
def suiteOf (D : Ends) (σ : L2.St) (H : Hp) (cls : Value) (d : Option Addr) (ts : Suite) : Option Nat → Addr → Prop
  | none, a => ts a cls d D σ H
  | some i, a => ts a cls d (unset D i) (σ.set i (some (.ref a))) H
def wAny (K : PySem.W.Frag) (out : WX) (D : Ends) : List (Value × Option Nat × Suite) → WX
  | [] => out
  | (c, i, ts) :: l => fun cls d σ H => ∃ b, PySem.W.exmOne K cls c = some b ∧ (b = true → ∀ a, H a = none → suiteOf D σ H cls d ts i a) ∧ (b = false → wAny K out D l cls d σ H)
section
variable {X : Cx} {body : List Stmt} {h0 : ExceptHandler} {hds : List ExceptHandler} {l : List (Value × Option Nat × Suite)} {pos : Pos} {tb : WX → TS} {out : WX}
/-- a caught exception goes through the clauses -/
theorem clauses (frs_ : X.A.frames = some (X.env :: X.outer)) (fr : X.env.frame = some X.env.locals) (stk : X.stack = X.env :: X.outer) (nd : X.N.Nodup) (tk : Takes X out) {pins pins1 : List (Addr × Obj)} {σ1 : L2.St} {H1 : Hp} {D : Ends} {a : Addr} {B h3 : Heap} {sI s1 : Shared} {cls : Value} {d : Option Addr}
    (J : Inv X pins σ1 H1 sI) (nb : ∀ b o, sI.heap.get? b = some o → b ∉ frs X.stack → B.get? b = some o) (na : H1 a = none) (os : s1.os = sI.os) (ag : AllBare s1.gens)
    (fl : HandSPX.FlyingZ B (X.env :: X.outer) a (Zc cls d) h3) (up : sI.heap.UpToSlots h3) :
    ∀ {hds : List ExceptHandler} {l : List (Value × Option Nat × Suite)}, HdsA X hds l → wAny X.K out D l cls d σ1 H1 → wpAny (model X.prog X.w) X.A (handleBy (.ref a) X.env hds) (SP X pins D) X.xe { s1 with heap := h3 } := by
  have okX := J.ok
  have landed : ∀ {h : Heap}, HandSPX.FlyingZ B (X.env :: X.outer) a (Zc cls d) h → sI.heap.UpToSlots h → Inv X pins σ1 H1 { s1 with heap := h } := fun f u => J.landed (s' := { s1 with heap := _ }) nb f.1 u os ag
  have J3 := landed fl up
  obtain ⟨oe3, vs3, at3, z3, dt3⟩ := fl.there
  have notAFrame : a ∉ frs (X.env :: X.outer) := fun m => by
    obtain ⟨_, o, e, bad⟩ := fl.2.2.1.mem m
    cases at3.symm.trans e
    exact bad _ dt3
  have offLocals : a ≠ X.env.locals := fun z => notAFrame (List.mem_filterMap.mpr ⟨X.env, List.mem_cons_self, by rw [fr, z]⟩)
  have offFs : a ∉ X.fs := fun m => by
    obtain ⟨e, me, ee⟩ := List.mem_filterMap.mp m
    exact notAFrame (List.mem_filterMap.mpr ⟨e, List.mem_cons_of_mem _ me, ee⟩)
  have inSuite := J3.suite at3 dt3 na offLocals offFs
  have clsOf : PySem.W.Looks (model X.prog X.w) h3 (typeOf (.ref a)) cls := fun _ _ _ _ k q => wpAny_typeOf_ref (k _ _ at3) (by rw [z3.1]; exact q)
  -- the clause's name is looked up
  have name : ∀ {x : Str} {c : Value} {p : Pos} {Q E : Value → Shared → Prop}, Names X x c → Q c { s1 with heap := h3 } → wpAny (model X.prog X.w) (X.A.mark (some (.ref a))) (eval (.Name x p) X.env) Q E { s1 with heap := h3 } := by
    rintro x c p Q E ⟨gl, db, m | ⟨m, v, nn⟩⟩ q
    · exact ld_glob (X := X.suite a ((a, oe3) :: (X.pn ++ pins))) inSuite gl m q db
    · exact ld_blt (X := X.suite a ((a, oe3) :: (X.pn ++ pins))) inSuite gl m v q nn db
  intro hds l hk
  induction hk with
  | none =>
    intro wish
    refine wpAny_handleBy_nil ?_
    obtain ⟨_, _, _, oe, vs, T, oT, ts, e1, _, e2, e3, _⟩ := id fl
    have goes : wpAny (model X.prog X.w) X.A (setFlight (.ref a) X.env.frame) (fun _ s4 => wpAny (model X.prog X.w) X.A (throw (.ref a) : Sem Flow) (SP X pins D) X.xe s4) X.xe { s1 with heap := h3 } := by
      rw [fr]
      refine HandSPX.setFlight_upZ fl ?_
      intro h4 held up4
      refine wpAny_throw (tk _ _ ⟨a, B, sI, pins, σ1, H1, cls, d, rfl, J, nb, up.trans up4, .inr (.inr ?_), na, os, ag, wish⟩)
      rw [stk]
      exact held
    unfold PySem.passOn
    refine wpAny_bind (wpAny_field e1 e2 e3 ?_)
    rw [if_neg (by simp : ¬ ((Value.ref T == Value.none) = true))]
    first
      | exact wpAny_bind goes
      | exact wpAny_bind (wpAny_pure (wpAny_bind goes))
  | @bare x c ts s0 more p q hds2 l2 nm su r ih =>
    rintro ⟨b, eb, yes, no⟩
    refine wpAny_handleBy_cons (codeAny_handlers_test (name nm ((PySem.W.exm_one (M := model X.prog X.w) J3.kIn clsOf eb).here ?_))) nofun
    match b, eb, yes, no with
    | false, _, _, no => exact ih (no rfl)
    | true, _, yes, _ =>
      refine codeAny_handlers_suite (HandSPX.lands_againZ fl ?_)
      intro h4 fl4 up4
      obtain ⟨oe4, vs4, at4, z4, dt4⟩ := fl4.there
      have S4 := (landed fl4 (up.trans up4)).suite at4 dt4 na offLocals offFs
      have ran := (su a oe4 cls d (X.pn ++ pins) z4 ⟨_, dt4⟩).run [] _ _ H1 _ S4 (yes rfl a na)
      refine wpAny_mono ran ?_ (fun _ _ z => z.elim)
      intro way s6 out6
      match way, out6 with
      | .next, ⟨_, _, S6, q6⟩ => exact ⟨_, _, S6.unsuite okX, q6⟩
      | .brk, ⟨_, _, S6, q6⟩ => exact ⟨_, _, S6.unsuite okX, q6⟩
      | .cont, ⟨_, _, S6, q6⟩ => exact ⟨_, _, S6.unsuite okX, q6⟩
      | .ret u, ⟨_, _, _, S6, r6, q6⟩ => exact ⟨_, _, _, S6.unsuite okX, r6, q6⟩
  | @named x n i c ts s0 more p q hds2 l2 nm at_ loc su r ih =>
    rintro ⟨b, eb, yes, no⟩
    refine wpAny_handleBy_cons (codeAny_handlers_test (name nm ((PySem.W.exm_one (M := model X.prog X.w) J3.kIn clsOf eb).here ?_))) nofun
    match b, eb, yes, no with
    | false, _, _, no => exact ih (no rfl)
    | true, _, yes, _ =>
      refine codeAny_handlers_suite_as (HandSPX.lands_againZ fl ?_)
      intro h4 fl4 up4
      obtain ⟨oe4, vs4, at4, z4, dt4⟩ := fl4.there
      have S4 := (landed fl4 (up.trans up4)).suite at4 dt4 na offLocals offFs
      refine store_ok (X := X.suite a ((a, oe4) :: (X.pn ++ pins))) (v := .ref a) S4 nd at_ (.inl loc) rfl ?_ (.inr loc)
      intro s5 S5
      have ran := (su a oe4 cls d (X.pn ++ pins) z4 ⟨_, dt4⟩).run [] s5 _ H1 _ S5 (yes rfl a na)
      refine wpAny_mono ran ?_ (fun _ _ z => z.elim)
      intro way s6 out6
      have goesOut : ∀ {σ6 : L2.St} {H6 : Hp} {Q : Shared → Prop}, Inv (X.suite a ((a, oe4) :: (X.pn ++ pins))) [] σ6 H6 s6 → (∀ s7, Inv X pins (σ6.set i none) H6 s7 → Q s7) →
          wpAny (model X.prog X.w) X.A (do bindName X.env n .none; unbindBehindTheSuite X.env n q) (fun _ s7 => Q s7) X.xe s6 := fun S6 w => gone_ok (S6.unsuite okX) nd at_ loc w
      match way, out6 with
      | .next, ⟨_, _, S6, q6⟩ => exact goesOut S6 fun _ J7 => ⟨_, _, J7, q6⟩
      | .brk, ⟨_, _, S6, q6⟩ => exact goesOut S6 fun _ J7 => ⟨_, _, J7, q6⟩
      | .cont, ⟨_, _, S6, q6⟩ => exact goesOut S6 fun _ J7 => ⟨_, _, J7, q6⟩
      | .ret u, ⟨_, _, _, S6, r6, q6⟩ => exact goesOut S6 fun _ J7 => ⟨_, _, _, J7, r6, q6⟩
theorem ps_tryA (stk : X.stack = X.env :: X.outer) (fr : X.env.frame = some X.env.locals) (nd : X.N.Nodup) (tk : Takes X out)
    (hb : ∀ (W : WX) (pn : List (Addr × Obj)) (xe : Value → Shared → Prop), Takes (X.tr pn xe) W → PSs (X.tr pn xe) body (tb W)) (hh : HdsA X (h0 :: hds) l) :
    PS X (.Try body (h0 :: hds) [] [] pos) (fun D σ H => tb (fun cls d σ1 H1 => σ1.length = X.N.length → wAny X.K out D l cls d σ1 H1) D σ H) := by
  constructor
  intro pins s σ H D I want
  have okX := I.ok
  have frs_ : X.A.frames = some (X.env :: X.outer) := okX.frames.trans (congrArg some stk)
  refine wpAny_Try_except ?_
  have go := fun xe tk' => (hb (fun cls d σ1 H1 => σ1.length = X.N.length → wAny X.K out D l cls d σ1 H1) (X.pn ++ pins) xe tk').run [] s σ H D (I.toTry xe) want
  refine wpAny_mono (go (fun e s1 => wpAny (model X.prog X.w) X.A (noteFrame e X.env) (fun _ s2 => wpAny (model X.prog X.w) X.A (setFlight e none) (fun _ s3 => wpAny (model X.prog X.w) X.A (handleBy e X.env (h0 :: hds)) (SP X pins D) X.xe s3) X.xe s2) X.xe s1) ?_) ?_ (fun _ _ z => z)
  · rintro u s1 ⟨a, B, sI, pins1, σ1, H1, cls, d, rfl, J1, nb, up, sky, na, os, ag, wish⟩
    have J : Inv X pins σ1 H1 sI := J1.ofTry okX
    have sky1 : Sky B (X.env :: X.outer) a (Zc cls d) X.env.locals s1.heap := by rw [← stk]; exact sky
    refine Sky.land Zc.steady frs_ fr sky1 ?_
    intro h3 fl up3
    exact clauses (pins1 := pins1) frs_ fr stk nd tk J nb na os ag fl (up.trans up3) hh (wish J.len)
  · intro way s1 out1
    match way, out1 with
    | .next, ⟨_, _, J, q⟩ => exact wpAny_execs_nil ⟨_, _, J.ofTry okX, q⟩
    | .brk, ⟨_, _, J, q⟩ => exact ⟨_, _, J.ofTry okX, q⟩
    | .cont, ⟨_, _, J, q⟩ => exact ⟨_, _, J.ofTry okX, q⟩
    | .ret u, ⟨_, _, _, J, r, q⟩ => exact ⟨_, _, _, J.ofTry okX, r, q⟩
end
/-! ### raising an own exception without arguments -/
section
variable {X : Cx} {C : Addr} {bmB : List Value} {B newId initId : String}
theorem pmk_own0 {x : Str} {p pos : Pos} (F : ExcBaseFacts B newId initId bmB) (q : PySem.W.excIn X.K C bmB newId = true) (gC : X.mg x = some (.ref C)) (kC : PySem.W.keepIn X.K (.ref C) = true) (r : Raises X (.ref C)) (hg : Gl X x)
    (hdb : (x == ("__debug__" : Str)) = false := by decide) : PMk X (.Call (.Name x p) [] [] pos) (fun _ H Q => Q (.ref C) none H) := by
  intro pins s σ H Q I want
  refine wpAny_Call_Name_kw (ld_glob I hg gC ?_ hdb)
  refine PySem.W.callWith_K0 I.kIn kC ?_
  obtain ⟨bm, N, nm, qn, bs, hdct, sn, sub, ab, col, dd, k0, k1, k2, k3, k5, mN, there, names, noInit, tail⟩ := exc_obj I.kIn q
  obtain ⟨hp, g, dr, tk, os⟩ := s
  refine wpAny_call_exc_subT F tail there names noInit ?_ (by show 0 ≤ sizeLine; decide)
  intro h1 e made
  exact mk_of I made r want (I.hok.gone made.new)
end
/-! ### defs that may raise -/
structure CfX (P : Program) (w : World) (K : PySem.W.Frag) (mg : Str → Option Value) (base : Heap) (k : Nat) (x : Str) (sp : Sp) : Prop where
  ex : ∃ (f : Addr) (fd : FuncData) (ps : List Str), FnOk P w K mg base (L2.CX P w) k f fd ps sp ∧ mg x = some (.ref f) ∧ PySem.W.keepIn K (.ref f) = true ∧ Binds K fd ps []
section
variable {P : Program} {w : World} {K : PySem.W.Frag} {mg : Str → Option Value} {base : Heap} {k : Nat} {x : Str} {sp : Sp} {st : Stmt}
theorem At.cfx {ps : List Str} (A : At K mg x st) (ok : ∀ (f : Addr) (fd : FuncData), Fun K x x st f fd → FnOk P w K mg base (L2.CX P w) k f fd ps sp)
    (bd : ∀ (f : Addr) (fd : FuncData), Fun K x x st f fd → Binds K fd ps []) : CfX P w K mg base k x sp := by
  obtain ⟨f, fd, F, m⟩ := A.ex
  exact ⟨f, fd, ps, ok f fd F, m, F.kp, bd f fd F⟩
end
section
variable {X : Cx} {k j : Nat} {x : Str} {sp : Sp} {p pos : Pos} {e : Expr} {es : List Expr} {t : TA} {E : XK} {W : WX}
theorem pe_fx (c : CfX X.prog X.w X.K X.mg X.base k x sp) (hr : Room j X.A) (hk : k ≤ j) (hx : Gl X x) (tk : Takes X W) (hW : ∀ cls d σ H, E cls d H → W cls d σ H) (ha : PA X (e :: es) t)
    (hdb : (x == ("__debug__" : Str)) = false := by decide) (he : starEach (e :: es) X.env = (false, eval e X.env) :: starEach es X.env := by rfl)
    (hpl : (backTo pos (starEach es X.env)).any (·.1) = false := by rfl) : PE X (.Call (.Name x p) (e :: es) [] pos) (tCall sp [] E t) := by
  obtain ⟨f, fd, ps, F, hm, kp, bd⟩ := c.ex
  exact pe_call F (hr.mono hk) hx hm kp bd .nil (passes_call tk hW) ha hdb he hpl
/-- a call with what is let out told by the slots where it stands -/
theorem pe_fxS (c : CfX X.prog X.w X.K X.mg X.base k x sp) (hr : Room j X.A) (hk : k ≤ j) (hx : Gl X x) (tk : Takes X W) (ha : PA X (e :: es) t)
    (hdb : (x == ("__debug__" : Str)) = false := by decide) (he : starEach (e :: es) X.env = (false, eval e X.env) :: starEach es X.env := by rfl)
    (hpl : (backTo pos (starEach es X.env)).any (·.1) = false := by rfl) : PE X (.Call (.Name x p) (e :: es) [] pos) (tCallS sp (WE W) t) := by
  obtain ⟨f, fd, ps, F, hm, kp, bd⟩ := c.ex
  exact pe_callS F (hr.mono hk) hx hm kp bd (fun σ => passAt tk σ) ha hdb he hpl
end
end Rt
namespace Rt
open PySem PySem.Spec L2 LamX
open PyProof.Rows hiding St
/-! ### the law's own call, with tables of code objects -/
/-- x's def holds lambdas: its code object at c, the table at P -/
structure LamT (K : PySem.W.Frag) (mg : Str → Option Value) (x : Str) (c P : Addr) : Prop where
  ex : ∃ (f : Addr) (o oc : Obj) (fd : FuncData) (vs : Array Value), mg x = some (.ref f) ∧ K.lookup f = some o ∧ o.data = .func fd ∧ fd.code = .ref c ∧ K.lookup c = some oc ∧ oc.data = .fields vs ∧ vs[11]? = some (.ref P)
  out : K.lookup P = none
/-- the tables, and nothing else but the script -/
structure BareT (H : Hp) (K : PySem.W.Frag) (a : Addr) (ps : List Addr) : Prop where
  only : ∀ b, H b = none ∨ b ∈ ps ∨ ∃ o xs, H b = some (.frz o (.lst xs))
  tbl : ∀ b, b ∈ ps → H b = some (.tbl #[])
  here : ∀ b, H b ≠ none → b = a ∨ b ∈ ps
  notK : H a ≠ none → K.lookup a = none
/-- what the head says of a def's table -/
structure HeadT (h : Heap) (K : PySem.W.Frag) (c P : Addr) : Prop where
  hd : PySem.W.CodeHd h c P
  nil : h.get? P = some { cls := .none, data := .fields #[] }
  out : K.lookup P = none
section
variable {P : Program} {w : World} {K : PySem.W.Frag} {mg mb : Str → Option Value} {k : Nat} {fa a : Addr} {fd : FuncData} {x : Str} {sp : Sp} {s₁ : Shared} {vs : List Value} {ns : List Int} {cs : List (Addr × Addr)}
theorem bare_callT {H : Hp} (B : BareT H K a (cs.map (·.2))) (ok : HOk P w H s₁.heap) (KX : K.In s₁.heap) (hns : s₁.heap.Ns mainGlobals mg) (hb : s₁.heap.Ns builtinsNs mb) (hbb : ∀ x : Str, x ≠ "__name__" → mb x = bootBuiltins x)
    (lim : s₁.heap.NoLimit) (gens : s₁.gens = #[]) (heads : ∀ p ∈ cs, HeadT s₁.heap K p.1 p.2)
    (bmain : ∃ (bm : Addr) (ob : Obj), mg "__builtins__" = some (.ref bm) ∧ bm ≠ builtinsNs ∧ s₁.heap.get? bm = some ob ∧ ob.cls = .type "module" ∧ ob.dict = some builtinsNs ∧ ob.data = .plain)
    (ha : s₁.heap.get? a = some { cls := .type "list", data := .seq vs.toArray }) (room : Room k callerA)
    (F : ∀ base : Heap, K.In base → base.Ns mainGlobals mg → (∀ p ∈ cs, TabB base mg p.1 p.2) → FnG P w K mg base k fa fd [x] sp) (bind : ∀ (s : Shared) (u : Value), BindsTo s fd ⟨[u], []⟩ [(x, u)])
    (want : sp [.ref a] H (fun v _ => v = .bl true) E0) : codeAny (model P w) callerA (.call (.ref fa) ⟨[.ref a], []⟩) (isTrue1 s₁) s₁ := by
  have tblAt : ∀ b, b ∈ cs.map (·.2) → s₁.heap.get? b = some { cls := .none, data := .fields #[] } := by
    intro b m
    obtain ⟨p, mp, rfl⟩ := List.mem_map.mp m
    exact (heads p mp).nil
  -- what is neither a list nor an empty record is untracked
  have free : ∀ {b : Addr} {o : Obj}, s₁.heap.get? b = some o → (∀ us n, o.data ≠ .seq us n) → o.data ≠ .fields #[] → H b = none := by
    intro b o e n1 n2
    by_cases z : H b = none
    · exact z
    · exfalso
      rcases B.here b z with y | y
      · subst y
        cases ha.symm.trans e
        exact n1 _ _ rfl
      · cases (tblAt b y).symm.trans e
        exact n2 rfl
  have freeD : ∀ {b : Addr} {o : Obj} {es : Array DictEntry} {ep : Nat}, s₁.heap.get? b = some o → o.data = .dict es ep → H b = none := fun e d =>
    free e (fun _ _ z => nomatch d.symm.trans z) (fun z => nomatch d.symm.trans z)
  have freeP : ∀ {b : Addr} {o : Obj}, s₁.heap.get? b = some o → o.data = .plain → H b = none := fun e d =>
    free e (fun _ _ z => nomatch d.symm.trans z) (fun z => nomatch d.symm.trans z)
  have freeF : ∀ {b : Addr} {o : Obj} {us : Array Value} {v : Value}, s₁.heap.get? b = some o → o.data = .fields us → us[11]? = some v → H b = none := fun e d g => by
    refine free e (fun _ _ z => nomatch d.symm.trans z) (fun z => ?_)
    cases d.symm.trans z
    simp at g
  have freeK : ∀ {b : Addr} {o : Obj}, K.lookup b = some o → H b = none := by
    intro b o e
    by_cases z : H b = none
    · exact z
    · exfalso
      rcases B.here b z with y | y
      · subst y
        exact nomatch (B.notK z).symm.trans e
      · obtain ⟨p, mp, rfl⟩ := List.mem_map.mp y
        exact nomatch (heads p mp).out.symm.trans e
  have names : ∀ {b : Addr} {m : Str → Option Value}, s₁.heap.Ns b m → (hidT s₁.heap H).Ns b m := by
    rintro b m ⟨o, es, ep, e, d, r⟩
    exact ⟨o, es, ep, hidT_get e (freeD e d), d, r⟩
  have inBase : K.In (hidT s₁.heap H) := fun b o e => hidT_get (KX b o e) (freeK e)
  have noLim : (hidT s₁.heap H).NoLimit := by
    obtain ⟨mc, z1, z2⟩ := lim
    exact ⟨mc, names z1, z2⟩
  have notTable : ∀ {b : Addr} {o : Obj}, s₁.heap.get? b = some o → (∃ es ep, o.data = .dict es ep) ∨ o.data = .plain → ∀ p ∈ cs, b ≠ p.2 := by
    rintro b o e d p mp rfl
    cases (heads p mp).nil.symm.trans e
    rcases d with ⟨_, _, d⟩ | d <;> cases d
  have tables : ∀ p ∈ cs, TabB (hidT s₁.heap H) mg p.1 p.2 := by
    intro p mp
    obtain ⟨oG, esG, epG, eG, dG, rG⟩ := id hns
    constructor
    · obtain ⟨o, us, file, tf, flags, tg, inF, text, tt, e1, e2, e3, e4, rest⟩ := (heads p mp).hd
      exact ⟨o, us, file, tf, flags, tg, inF, text, tt, hidT_get e1 (freeF e1 e3 e4), e2, e3, e4, rest⟩
    · obtain ⟨bm, ob, z1, z2, z3, z4, z5, z6⟩ := bmain
      refine ⟨bm, ob, z1, z2, ?_, notTable z3 (.inr z6) p mp, hidT_get z3 (freeP z3 z6), z4, z5, z6⟩
      intro y
      rw [y] at z3
      cases eG.symm.trans z3
      cases dG.symm.trans z6
    · exact notTable eG (.inl ⟨_, _, dG⟩) p mp
  have e0 : Env0 P w K mg (hidT s₁.heap H) callerA [] s₁ H := by
    constructor
    · rfl
    · exact ⟨inBase, names hns, ⟨mb, names hb, hbb⟩, noLim⟩
    · exact fun b o e => of_hidT e
    · exact Nat.le_of_eq (hidT_size _ _)
    · exact True.intro
    · exact fun b hb => nomatch (show b ∈ ([] : List Addr) from hb)
    · exact ok
    · exact .of_eq gens
  have run := (F _ inBase (names hns) tables).go callerA rfl room [] s₁ H ⟨[.ref a], []⟩ [.ref a] [.ref a] _ _ e0 (bind s₁ (.ref a)) (.cons rfl .nil) want
  refine codeAny_mono run ?_
  intro r s2 out
  match r, out with
  | .error _, z => exact False.elim z
  | .ok .next, z => exact False.elim z
  | .ok .brk, z => exact False.elim z
  | .ok .cont, z => exact False.elim z
  | .ok (.ret u), ⟨v, H2, os, bare, un, ok2, ru, q⟩ =>
    obtain rfl : v = .bl true := q
    obtain rfl : u = Value.bool true := ru
    have same : ∀ b o, b ∉ cs.map (·.2) → s₁.heap.get? b = some o → s2.heap.get? b = some o := by
      intro b o nt e
      by_cases z : H b = none
      · exact un.keep b o e z (fun y => nomatch (show b ∈ ([] : List Addr) from y)) (fun y => nomatch (show b ∈ ([] : List Addr) from y))
      · rcases B.only b with y | y | ⟨ob, xs, y⟩
        · exact absurd y z
        · exact absurd y nt
        · have e1 := (ok b _ y).1
          have e2 := (ok2 b _ (un.frzs b ob _ y)).1
          cases e1.symm.trans e
          exact e2
    have grown : ∀ p ∈ cs, ∃ more : Array Value, s2.heap.get? p.2 = some { cls := .none, data := .fields more } := by
      intro p mp
      obtain ⟨more, z⟩ := un.tbls p.2 #[] (B.tbl _ (List.mem_map.mpr ⟨p, mp, rfl⟩))
      exact ⟨_, ok2 p.2 _ z⟩
    refine ⟨rfl, ⟨?_, ?_⟩, os, bare⟩
    · intro b o e
      by_cases m : b ∈ cs.map (·.2)
      · obtain ⟨p, mp, rfl⟩ := List.mem_map.mp m
        obtain ⟨more, z⟩ := grown p mp
        have T := heads p mp
        cases T.nil.symm.trans e
        refine .inr (.inl ⟨(T.hd.tab T.nil).isCodeTable, rfl, #[], more, rfl, ?_⟩)
        rw [Array.empty_append]
        exact z
      · exact .inl (same b o m e)
    · intro b o e
      by_cases m : b ∈ cs.map (·.2)
      · obtain ⟨p, mp, rfl⟩ := List.mem_map.mp m
        obtain ⟨more, z⟩ := grown p mp
        exact ⟨_, z⟩
      · exact ⟨o, same b o m e⟩
theorem law_gT (KX : K.In s₁.heap) (hns : s₁.heap.Ns mainGlobals mg) (hb : s₁.heap.Ns builtinsNs mb) (hbb : ∀ x : Str, x ≠ "__name__" → mb x = bootBuiltins x) (lim : s₁.heap.NoLimit) (gens : s₁.gens = #[]) (heads : ∀ p ∈ cs, HeadT s₁.heap K p.1 p.2)
    (bmain : ∃ (bm : Addr) (ob : Obj), mg "__builtins__" = some (.ref bm) ∧ bm ≠ builtinsNs ∧ s₁.heap.get? bm = some ob ∧ ob.cls = .type "module" ∧ ob.dict = some builtinsNs ∧ ob.data = .plain)
    (ha : s₁.heap.get? a = some { cls := .type "list", data := .seq vs.toArray }) (nums : IntsAre vs ns) (fit : ns.length ≤ sizeLine) (room : Room k callerA)
    (F : ∀ base : Heap, K.In base → base.Ns mainGlobals mg → (∀ p ∈ cs, TabB base mg p.1 p.2) → FnG P w K mg base k fa fd [x] sp) (bind : ∀ (s : Shared) (u : Value), BindsTo s fd ⟨[u], []⟩ [(x, u)])
    (want : ∀ H : Hp, (∀ p ∈ cs, H p.2 = some (.tbl #[])) → SqL K H a (ns.map V.int) → sp [.ref a] H (fun v _ => v = .bl true) E0) :
    codeAny (model P w) callerA (.call (.ref fa) ⟨[.ref a], []⟩) (isTrue1 s₁) s₁ := by
  have rv := vals_ints nums
  have lv := nums.length
  have inT : ∀ p ∈ cs, p.2 ∈ cs.map (·.2) := fun p mp => List.mem_map.mpr ⟨p, mp, rfl⟩
  have tblAt : ∀ b, b ∈ cs.map (·.2) → s₁.heap.get? b = some { cls := .none, data := .fields #[] } := by
    intro b m
    obtain ⟨p, mp, rfl⟩ := List.mem_map.mp m
    exact (heads p mp).nil
  have aNot : a ∉ cs.map (·.2) := fun m => nomatch ha.symm.trans (tblAt a m)
  rcases hk : K.lookup a with _ | o
  · let H : Hp := fun b => if b = a then some (.frz { cls := .type "list", data := .seq vs.toArray } (.lst (ns.map V.int))) else if b ∈ cs.map (·.2) then some (.tbl #[]) else none
    have Ha : H a = some (.frz { cls := .type "list", data := .seq vs.toArray } (.lst (ns.map V.int))) := if_pos rfl
    have Ht : ∀ b, b ∈ cs.map (·.2) → H b = some (.tbl #[]) := fun b m => (if_neg (fun (z : b = a) => aNot (by rw [← z]; exact m))).trans (if_pos m)
    have Hn : ∀ b, b ≠ a → b ∉ cs.map (·.2) → H b = none := fun b z y => (if_neg z).trans (if_neg y)
    have ok : HOk P w H s₁.heap := fun b u e => by
      by_cases y : b = a
      · subst y
        cases Ha.symm.trans e
        refine ⟨ha, ?_, vs, _, rv, ha⟩
        rw [List.length_map]
        exact fit
      · by_cases m : b ∈ cs.map (·.2)
        · cases (Ht b m).symm.trans e
          exact tblAt b m
        · exact nomatch (Hn b y m).symm.trans e
    refine bare_callT (H := H) ⟨fun b => ?_, Ht, fun b z => ?_, fun _ => hk⟩ ok KX hns hb hbb lim gens heads bmain ha room F bind (want H (fun p mp => Ht _ (inT p mp)) (.inl (.inr ⟨_, Ha⟩)))
    · by_cases z : b = a
      · subst z
        exact .inr (.inr ⟨_, _, Ha⟩)
      · by_cases m : b ∈ cs.map (·.2)
        · exact .inr (.inl m)
        · exact .inl (Hn b z m)
    · by_cases y : b = a
      · exact .inl y
      · by_cases m : b ∈ cs.map (·.2)
        · exact .inr m
        · exact absurd (Hn b y m) z
  · have e := KX a o hk
    cases ha.symm.trans e
    let H : Hp := fun b => if b ∈ cs.map (·.2) then some (.tbl #[]) else none
    have Ht : ∀ b, b ∈ cs.map (·.2) → H b = some (.tbl #[]) := fun b m => if_pos m
    have Hn : ∀ b, b ∉ cs.map (·.2) → H b = none := fun b m => if_neg m
    have ok : HOk P w H s₁.heap := fun b u e => by
      by_cases m : b ∈ cs.map (·.2)
      · cases (Ht b m).symm.trans e
        exact tblAt b m
      · exact nomatch (Hn b m).symm.trans e
    refine bare_callT (H := H) ⟨fun b => ?_, Ht, fun b z => ?_, fun z => absurd (Hn a aNot) z⟩ ok KX hns hb hbb lim gens heads bmain ha room F bind (want H (fun p mp => Ht _ (inT p mp)) (.inr ⟨_, vs.toArray, _, hk, rfl, rfl, rfl, ?_, by simpa using rv⟩))
    · by_cases m : b ∈ cs.map (·.2)
      · exact .inr (.inl m)
      · exact .inl (Hn b m)
    · by_cases m : b ∈ cs.map (·.2)
      · exact .inr m
      · exact absurd (Hn b m) z
    · rw [List.size_toArray, lv]
      exact fit
theorem walk_gT {l : PySem.W.OpenLaw} {n k : Nat} {q : Program} {loose : List Str} {XP : (Str → Option Value) → Heap → Prop} {YP : World → Heap → Prop} {d : DefRec} {K : Params → PySem.W.Frag} {x : Str}
    (hn : l.most = some n) (le : n ≤ sizeLine) (noDf : d.params.defaults = []) (room : Room k callerA) (hY : ∀ (w : World) (h : Heap), YP w h → (K w.params).In h)
    (F : ∀ (w : World) (mg : Str → Option Value) (fa : Addr) (h : Heap), (K w.params).In h → h.Ns mainGlobals mg → mg d.name = some (.ref fa) →
      ∃ (fd : FuncData) (ts : List (Str × Addr × Addr)) (sp : Sp), (∀ t ∈ ts, LamT (K w.params) mg t.1 t.2.1 t.2.2 ∧ ((recsOf q).any fun e => e.name == t.1) = true) ∧ (∀ (s : Shared) (u : Value), BindsTo s fd ⟨[u], []⟩ [(x, u)]) ∧
        (∀ (H : Hp) (a : Addr) (ns : List Int), ns.length ≤ n → (∀ t ∈ ts, H t.2.2 = some (.tbl #[])) → SqL (K w.params) H a (ns.map V.int) → sp [.ref a] H (fun v _ => v = .bl true) E0) ∧
        ∀ base : Heap, (K w.params).In base → base.Ns mainGlobals mg → (∀ t ∈ ts, TabB base mg t.2.1 t.2.2) → FnG l.prog w (K w.params) mg base k fa fd [x] sp) :
    PySem.W.WalkO q loose XP YP l.row.toRowW d [] (fun f vs => PySem.call f vs) := by
  refine Att.attach_call hn noDf ?_
  intro w s₀ s₁ mg mb fa o pm cd doc a vs ns G Y ho hd hcd hmg hobj nums few gens
  have KX := hY w _ Y
  obtain ⟨fd, ts, sp, lams, bind, want, each⟩ := F w mg fa _ KX G.T.g hmg
  have heads : ∀ p ∈ ts.map (·.2), HeadT s₁.heap (K w.params) p.1 p.2 := by
    intro p mp
    obtain ⟨t, mt, rfl⟩ := List.mem_map.mp mp
    obtain ⟨L, any⟩ := lams t mt
    obtain ⟨f, o1, oc, fd1, us, g1, g2, g3, g4, g5, g6, g7⟩ := L.ex
    obtain ⟨dL, md, en⟩ := List.any_eq_true.mp any
    have en2 : dL.name = t.1 := beq_iff_eq.mp en
    obtain ⟨a1, o2, fd2, c2, P2, h1, h2, h3, h4, h5, h6⟩ := G.T.tab dL md
    rw [en2, g1] at h1
    cases h1
    cases (KX _ _ g2).symm.trans h2
    cases g3.symm.trans h3
    cases g4.symm.trans h4
    have hc := PySem.W.CodeHd.of h5 h6
    obtain ⟨⟨o3, us3, e1, e2, e3, e4⟩, nil⟩ := h6
    cases (KX _ _ g5).symm.trans e1
    cases g6.symm.trans e3
    cases g7.symm.trans e4
    exact ⟨hc, nil, L.out⟩
  refine law_gT (sp := sp) (cs := ts.map (·.2)) KX G.T.g G.T.b G.T.builtins G.T.nolimit gens heads G.T.bmain hobj nums (Nat.le_trans few le) room ?_ bind ?_
  · exact fun base z1 z2 z3 => each base z1 z2 fun t mt => z3 t.2 (List.mem_map.mpr ⟨t, mt, rfl⟩)
  · exact fun H z1 z2 => want H a ns few (fun t mt => z1 t.2 (List.mem_map.mpr ⟨t, mt, rfl⟩)) z2
end
/-! ### heaps in which tables may grow -/
/-- all but the source, its list and the tables stays -/
def KeepN (d c : Addr) (H H' : Hp) : Prop := ∀ b o, H b = some o → b ≠ d → b ≠ c → (∀ ps, o ≠ .tbl ps) → H' b = some o
theorem KeepN.trans {d c : Addr} {H H1 H2 : Hp} (a : KeepN d c H H1) (b : KeepN d c H1 H2) : KeepN d c H H2 := fun x o e n1 n2 n3 => b x o (a x o e n1 n2 n3) n1 n2 n3
theorem KeepN.of_ext {d c : Addr} {H H' : Hp} (a : ExtN H H') : KeepN d c H H' := fun x o e _ _ n => a x o e n
theorem KeepN.refl {d c : Addr} {H : Hp} : KeepN d c H H := fun _ _ e _ _ _ => e
theorem ExtN.of_same {H H' : Hp} (s : Same H H') : ExtN H H' := fun b o e _ => s b o e
theorem Tabs.same {T : List (Addr × Str)} {H H' : Hp} (t : Tabs T H) (s : Same H H') : Tabs T H' := t.ext s
end Rt
namespace Rt
open PySem PySem.Spec L2 LamX
open PyProof.Rows hiding St
/-! ### raising exceptions of one's own that keep what they are made with -/
abbrev veT : List Value := [.type "ValueError", .type "Exception", .type "BaseException", .type "object"]
abbrev leT : List Value := [.type "LookupError", .type "Exception", .type "BaseException", .type "object"]
/-- a class without an own __init__ over ValueError -/
structure Easy (K : PySem.W.Frag) (mg : Str → Option Value) (x : Str) (C : Addr) : Prop where
  m : mg x = some (.ref C)
  q : PySem.W.excIn K C veT "ValueError.__new__" = true
  kp : PySem.W.keepIn K (.ref C) = true
  cc : ExcC K C
  ty : PySem.W.typeIn K (.ref C) = some (.type "type")
/-- a class with an own __init__ that keeps one thing -/
structure Own (K : PySem.W.Frag) (mg : Str → Option Value) (x qual attr : Str) (st : Stmt) (bm : List Value) (newId : String) (C : Addr) : Prop where
  m : mg x = some (.ref C)
  M : ExM K C bm
  i : PySem.W.excInitIn K C bm newId = true
  ty : PySem.W.typeIn K (.ref C) = some (.type "type")
  no : PySem.W.findIn K (.ref C) attr = some none
  ex : ∃ (f : Addr) (fd : FuncData), PySem.W.findIn K (.ref C) "__init__" = some (some (.ref f)) ∧ PySem.W.typeIn K (.ref f) = some (.type "function") ∧ Fun K "__init__" qual st f fd
section
variable {K : PySem.W.Frag} {mg : Str → Option Value} {h : Heap} {x qual attr : Str} {C f : Addr}
theorem easy_mk (X : K.In h) (G : h.Ns mainGlobals mg) (a : PySem.W.nsIn K mainGlobals x = some (some (.ref C))) (kp : PySem.W.keepIn K (.ref C) = true) (cc : ExcC K C) (q : PySem.W.excIn K C veT "ValueError.__new__" = true) (ty : PySem.W.typeIn K (.ref C) = some (.type "type")) : Easy K mg x C := ⟨PySem.W.mg_of X G a, q, kp, cc, ty⟩
theorem own_mk {st : Stmt} {bm : List Value} {newId : String} {oc kV dc pm cd ct : Value} {od an : Option Addr} {sl : Array (Option Value)} (X : K.In h) (G : h.Ns mainGlobals mg) (a : PySem.W.nsIn K mainGlobals x = some (some (.ref C)))
    (over : PySem.W.excOver K C bm = true) (sa : PySem.W.findIn K (.ref C) "__setattr__" = some (some (.builtin "object.__setattr__"))) (cc : ExcC K C) (kp : PySem.W.keepIn K (.ref C) = true) (ty : PySem.W.typeIn K (.ref C) = some (.type "type"))
    (i : PySem.W.excInitIn K C bm newId = true) (fnd : PySem.W.findIn K (.ref C) "__init__" = some (some (.ref f))) (tf : PySem.W.typeIn K (.ref f) = some (.type "function")) (no : PySem.W.findIn K (.ref C) attr = some none)
    (l : K.lookup f = some ⟨oc, od, .func (PySem.W.fnOf "__init__" qual (defArgs st) (defBody st) (defScope st) .none kV dc pm an cd ct), sl⟩) (c : PySem.W.codeIn K cd qual = true) (k : PySem.W.keepIn K (.ref f) = true) : Own K mg x qual attr st bm newId C :=
  ⟨PySem.W.mg_of X G a, ⟨over, sa, cc, kp⟩, i, ty, no, ⟨f, _, fnd, tf, fun_mk l c k⟩⟩
end
section
variable {X : Cx} {e : Expr} {es : List Expr} {ta : TA} {p p' pos pos' : Pos} {B : String} {bmB : List Value}
/-- what is asked of a making of C(e, ..), C's __init__ keeping sp -/
def Mak (C : Addr) (sp : Sp) (vs : List V) (H1 : Hp) (Q : XK) : Prop := vs.length ≤ 1000 ∧ ∀ a, H1 a = none → sp (.ref a :: vs) (upd H1 a (exo a C none))
  (fun v H2 => v = .non ∧ ∃ (d : Addr) (fs : List (Str × V)), H2 a = some (exo a C (some d)) ∧ H2 d = some (exd d fs) ∧ H1 d = none ∧ Q (.ref C) (some d) (upd (del H2 a) d (.xd fs))) E0
theorem pmk_xm {R : List V → Hp → XK → Prop} {x : Str} {C fI : Addr} {k : Nat} {fd : FuncData} {ps : List Str} {sp : Sp} {newId initId : String} (F : ExcBaseFacts B newId initId bmB) (M : ExM X.K C bmB) (rs : Raises X (.ref C)) (ini : PySem.W.excInitIn X.K C bmB newId = true)
    (iC : PySem.W.findIn X.K (.ref C) "__init__" = some (some (.ref fI))) (tI : PySem.W.typeIn X.K (.ref fI) = some (.type "function")) (G : FnOk X.prog X.w X.K X.mg X.base CX0 k fI fd ps sp) (hr : Room (k + 1) X.A) (hb : Binds X.K fd ps [])
    (hg : Gl X x) (hm : X.mg x = some (.ref C)) (ha : PA X (e :: es) ta) (hR : ∀ vs H1 Q, R vs H1 Q → Mak C sp vs H1 Q) (hdb : (x == ("__debug__" : Str)) = false := by decide) (he : starEach (e :: es) X.env = (false, eval e X.env) :: starEach es X.env := by rfl)
    (hpl : (backTo pos (starEach es X.env)).any (·.1) = false := by rfl) : PMk X (.Call (.Name x p) (e :: es) [] pos) (fun σ H Q => ta σ H fun vs H1 => R vs H1 Q) := by
  intro pins s σ H Q I h
  refine wpAny_Call_Name_kw (ld_glob I hg hm ?_ hdb)
  refine PySem.W.callWith_K (h₀ := X.base) I.ok.mod.kin M.kp (thn (ha.run pos pins s σ H _ I h) ?_) he hpl
  rintro us s1 ⟨vs, H1, J, rv, qR⟩
  obtain ⟨few, q⟩ := hR _ _ _ qR
  refine ⟨J.kIn, ?_⟩
  show wpAny _ _ (call (.ref C) us) _ _ _
  obtain ⟨hp, g, dr, tk, os⟩ := s1
  obtain ⟨nm, N, qn, bs, bm, hdct, sn, sub, ab, col, dd, k0, k1, k2, k3, k5, hC, tail⟩ := PySem.W.excInit_of J.kIn ini
  have le : hp.objs.size ≤ hp.objs.size + 1 := Nat.le_succ _
  have hn : H1 (hp.objs.size + 1) = none := J.hok.fresh le
  have want := q (hp.objs.size + 1) hn
  have kept : ∀ b o, hp.get? b = some o → ((hp.push (PySem.W.kdv_tup us)).push (PySem.HandSPX.excO C hp.objs.size)).get? b = some o := fun b o z => Heap.get?_push_of_some _ (Heap.get?_push_of_some _ z)
  have got : ((hp.push (PySem.W.kdv_tup us)).push (PySem.HandSPX.excO C hp.objs.size)).get? (hp.objs.size + 1) = some (PySem.HandSPX.excO C hp.objs.size) := by heap_get
  have J2 : Inv X pins σ (upd H1 (hp.objs.size + 1) (exo (hp.objs.size + 1) C none)) ⟨(hp.push (PySem.W.kdv_tup us)).push (PySem.HandSPX.excO C hp.objs.size), g, dr, tk, os⟩ :=
    J.laid (t' := tk) kept le (exo_ok got)
  have r2 : Vals (V.ref (hp.objs.size + 1) :: vs) (Value.ref (hp.objs.size + 1) :: us) := .cons rfl rv
  have hl : (Value.ref (hp.objs.size + 1) :: us).length = ps.length := by
    rw [← r2.length]
    exact G.len _ _ _ _ want
  have hus : us.length ≤ sizeLine := by
    rw [← Paired.length rv, sizeLine_eq]
    omega
  have bt : BindsTo ⟨(hp.push (PySem.W.kdv_tup us)).push (PySem.HandSPX.excO C hp.objs.size), g, dr, tk, os⟩ fd ⟨Value.ref (hp.objs.size + 1) :: us, []⟩ (ps.zip (Value.ref (hp.objs.size + 1) :: us)) := by
    have z := hb _ (Value.ref (hp.objs.size + 1) :: us) J2.kIn (by simpa using hl)
    simpa using z
  refine wpAny_call (PySem.HandSPX.call_own F tail hC (PySem.W.looks_findIn J.kIn iC) (fun self => PySem.W.bind_fn J.kIn self tI) hus
    (codeAny_mono (G.run _ X.stack _ _ ⟨Value.ref (hp.objs.size + 1) :: us, []⟩ (Value.ref (hp.objs.size + 1) :: us) _ _ E0 (hr.make C us []) (J2.env0.make C us []) bt r2 want) ?_))
  intro r s2 out
  match r, out with
  | .error _, z => exact False.elim z
  | .ok .next, z => exact False.elim z
  | .ok .brk, z => exact False.elim z
  | .ok .cont, z => exact False.elim z
  | .ok (.ret u), ⟨v, H2, os2, bare2, un2, ok2, ru, hv, d, fs, ea, ed, nd, q2⟩ =>
    subst hv
    obtain ⟨h2, g2, d2, t2, os3⟩ := s2
    exact ⟨ru, mk_end rs J le kept un2 ok2 os2 bare2 ea ed nd q2⟩
/-- what an __init__ that keeps a tuple of its argument promises -/
def spIniT (C : Addr) (attr : Str) : Sp := fun vs H Q _ => ∃ (a p : Addr) (xs : List V), vs = [.ref a, .ref p] ∧ H a = some (exo a C none) ∧ (H p = some (.lst xs) ∨ H p = some (.tup xs)) ∧ xs.length ≤ 1000 ∧
  ∀ (d q : Addr) (H' : Hp), H d = none → d ≠ a → H' a = some (exo a C (some d)) → H' d = some (exd d [(attr, .ref q)]) → H' q = some (.tup xs) → (∀ b o, H b = some o → b ≠ a → H' b = some o) → Q .non H'
/-- what an __init__ that keeps its argument as it is promises -/
def spIniV (C : Addr) (attr : Str) : Sp := fun vs H Q _ => ∃ (a : Addr) (v : V), vs = [.ref a, v] ∧ H a = some (exo a C none) ∧
  ∀ (d : Addr) (H' : Hp), H d = none → d ≠ a → H' a = some (exo a C (some d)) → H' d = some (exd d [(attr, v)]) → (∀ b o, H b = some o → b ≠ a → H' b = some o) → Q .non H'
theorem raises_of {C : Addr} (cc : ExcC X.K C) (ty : PySem.W.typeIn X.K (.ref C) = some (.type "type")) : Raises X (.ref C) := raises_own cc.hs ty
/-- raise C(e), C keeping a tuple of it -/
def rRaT (C : Addr) (attr : Str) (vs : List V) (H1 : Hp) (Q : XK) : Prop := ∃ (p : Addr) (xs : List V), vs = [.ref p] ∧ (H1 p = some (.lst xs) ∨ H1 p = some (.tup xs)) ∧ xs.length ≤ 1000 ∧
  ∀ (d q : Addr) (H2 : Hp), H1 d = none → Same H1 H2 → H2 d = some (.xd [(attr, .ref q)]) → H2 q = some (.tup xs) → Q (.ref C) (some d) H2
def rRaV (C : Addr) (attr : Str) (vs : List V) (H1 : Hp) (Q : XK) : Prop := ∃ (v : V), vs = [v] ∧
  ∀ (d : Addr) (H2 : Hp), H1 d = none → Same H1 H2 → H2 d = some (.xd [(attr, v)]) → Q (.ref C) (some d) H2
theorem mak_T {C : Addr} {attr : Str} {vs : List V} {H1 : Hp} {Q : XK} (h : rRaT C attr vs H1 Q) : Mak C (spIniT C attr) vs H1 Q := by
  obtain ⟨q0, xs, rfl, at_, few, k⟩ := h
  refine ⟨(by show 1 ≤ 1000; decide), fun a na => ?_⟩
  have kp : ∀ b o, H1 b = some o → (upd H1 a (exo a C none)) b = some o := fun b o z => by rw [upd_ne (ne_of_none z na)]; exact z
  refine ⟨a, q0, xs, rfl, upd_same, at_.imp (kp _ _) (kp _ _), few, fun d q H2 nd da ea ed eq keep => ⟨rfl, d, _, ea, ed, ?_, ?_⟩⟩
  · rw [upd_ne da] at nd
    exact nd
  · have nd1 : H1 d = none := by
      rw [upd_ne da] at nd
      exact nd
    have qa : q ≠ a := ext_ne ea eq fun _ => nofun
    have qd : q ≠ d := ext_ne ed eq fun _ => nofun
    refine k d q _ nd1 (fun b o z => ?_) upd_same (by rw [upd_ne qd, del_ne qa]; exact eq)
    rw [upd_ne (ne_of_none z nd1), del_ne (ne_of_none z na)]
    exact keep b o (kp b o z) (ne_of_none z na)
theorem mak_V {C : Addr} {attr : Str} {vs : List V} {H1 : Hp} {Q : XK} (h : rRaV C attr vs H1 Q) : Mak C (spIniV C attr) vs H1 Q := by
  obtain ⟨v, rfl, k⟩ := h
  refine ⟨(by show 1 ≤ 1000; decide), fun a na => ?_⟩
  have kp : ∀ b o, H1 b = some o → (upd H1 a (exo a C none)) b = some o := fun b o z => by rw [upd_ne (ne_of_none z na)]; exact z
  refine ⟨a, v, rfl, upd_same, fun d H2 nd da ea ed keep => ⟨rfl, d, _, ea, ed, ?_, ?_⟩⟩
  · rw [upd_ne da] at nd
    exact nd
  · have nd1 : H1 d = none := by
      rw [upd_ne da] at nd
      exact nd
    refine k d _ nd1 (fun b o z => ?_) upd_same
    rw [upd_ne (ne_of_none z nd1), del_ne (ne_of_none z na)]
    exact keep b o (kp b o z) (ne_of_none z na)
def tRa (R : List V → Hp → XK → Prop) (W : WX) (ta : TA) : TS := fun _ σ H => ta σ H fun vs H1 => R vs H1 fun cls d H' => W cls d σ H'
theorem ps_raO {W : WX} {R : List V → Hp → XK → Prop} {sp : Sp} {ps : List Str} {x qual attr : Str} {st : Stmt} {newId initId : String} {C : Addr} (F : ExcBaseFacts B newId initId bmB) (O : Own X.K X.mg x qual attr st bmB newId C) (hc : X.calm = true) (tk : Takes X W)
    (ini : ∀ (f : Addr) (fd : FuncData), Fun X.K "__init__" qual st f fd → FnOk X.prog X.w X.K X.mg X.base CX0 1 f fd ps sp) (bd : ∀ (f : Addr) (fd : FuncData), Fun X.K "__init__" qual st f fd → Binds X.K fd ps [])
    {j : Nat} (hr : Room j X.A) (hk : 2 ≤ j) (hg : Gl X x) (ha : PA X (e :: es) ta) (hR : ∀ vs H1 Q, R vs H1 Q → Mak C sp vs H1 Q) (hdb : (x == ("__debug__" : Str)) = false := by decide) (he : starEach (e :: es) X.env = (false, eval e X.env) :: starEach es X.env := by rfl)
    (hpl : (backTo pos (starEach es X.env)).any (·.1) = false := by rfl) : PS X (.Raise (some (.Call (.Name x p) (e :: es) [] pos)) none pos') (tRa R W ta) := by
  obtain ⟨f, fd, fnd, tf, Fn⟩ := O.ex
  exact ps_raise (pos := pos') hc tk (pmk_xm (p := p) (pos := pos) F O.M (raises_of O.M.cc O.ty) O.i fnd tf (ini f fd Fn) (hr.mono hk) (bd f fd Fn) hg O.m ha hR hdb he hpl)
/-- raise C(), C without an own __init__ -/
theorem ps_raE {W : WX} {x : Str} {C : Addr} (O : Easy X.K X.mg x C) (hc : X.calm = true) (tk : Takes X W) (hg : Gl X x) (hdb : (x == ("__debug__" : Str)) = false := by decide) :
    PS X (.Raise (some (.Call (.Name x p) [] [] pos)) none pos') (fun _ σ H => W (.ref C) none σ H) :=
  ps_raise (pos := pos') hc tk (pmk_own0 (p := p) (pos := pos) PySem.F.excBase_ValueError O.q O.m O.kp (raises_of O.cc O.ty) hg hdb)
end
/-! ### makers that may raise -/
structure MkrX (P : Program) (w : World) (K : PySem.W.Frag) (mg : Str → Option Value) (base : Heap) (k : Nat) (C : Addr) (x : Str) (sp : Sp) : Prop where
  ex : ∃ (f : Addr) (fd : FuncData) (ps : List Str), L2.Mk K C f ∧ mg x = some (.ref C) ∧ FnOk P w K mg base (L2.CX P w) k f fd ps sp ∧ Binds K fd ps []
theorem MkAt.mkrx {P : Program} {w : World} {K : PySem.W.Frag} {mg : Str → Option Value} {base : Heap} {k : Nat} {C : Addr} {x qual : Str} {st : Stmt} {ps : List Str} {sp : Sp} (A : MkAt K mg x C qual st)
    (ok : ∀ (f : Addr) (fd : FuncData), Fun K "__init__" qual st f fd → FnOk P w K mg base (L2.CX P w) k f fd ps sp) (bd : ∀ (f : Addr) (fd : FuncData), Fun K "__init__" qual st f fd → Binds K fd ps []) : MkrX P w K mg base k C x sp := by
  obtain ⟨f, fd, h, n, F⟩ := A.ex
  exact ⟨f, fd, ps, h, n, ok f fd F, bd f fd F⟩
section
variable {X : Cx} {k j : Nat} {C : Addr} {x : Str} {sp : Sp} {p pos : Pos} {e : Expr} {es : List Expr} {t : TA} {W : WX} {E : XK}
theorem pe_mkrX (M : MkrX X.prog X.w X.K X.mg X.base k C x sp) (hr : Room j X.A) (hk : k + 1 ≤ j) (hg : Gl X x) (tk : Takes X W) (hW : ∀ cls d σ H, E cls d H → W cls d σ H) (ha : PA X (e :: es) t)
    (hdb : (x == ("__debug__" : Str)) = false := by decide) (he : starEach (e :: es) X.env = (false, eval e X.env) :: starEach es X.env := by rfl) (hpl : (backTo pos (starEach es X.env)).any (·.1) = false := by rfl) :
    PE X (.Call (.Name x p) (e :: es) [] pos) (tMake C sp [] E t) := by
  obtain ⟨f, fd, ps, mk, hm, F, b⟩ := M.ex
  exact pe_make mk F (hr.mono hk) hg hm b .nil (passes_call tk hW) ha hdb he hpl
end
end Rt
namespace Rt
open PySem PySem.Spec L2 LamX
open PyProof.Rows hiding St
/-! ### defs that hold lambdas -/
/-- the code object of the def at f is the one at c -/
def CodeAt (K : PySem.W.Frag) (f c : Addr) : Prop := ∃ (o : Obj) (fd : FuncData), K.lookup f = some o ∧ o.data = .func fd ∧ fd.code = .ref c
theorem LamT.code {K : PySem.W.Frag} {mg : Str → Option Value} {x : Str} {c P f : Addr} (L : LamT K mg x c P) (m : mg x = some (.ref f)) : CodeAt K f c := by
  obtain ⟨f', o, oc, fd, vs, g1, g2, g3, g4, _⟩ := L.ex
  cases m.symm.trans g1
  exact ⟨o, fd, g2, g3, g4⟩
/-- where the code object of a def and its table stand -/
def tabOf (K : PySem.W.Frag) (x : Str) : Option (Addr × Addr) := match PySem.W.nsIn K mainGlobals x with
  | some (some (.ref f)) => (match K.lookup f with
    | some o => (match o.data with
      | .func fd => (match fd.code with
        | .ref c => (match K.lookup c with
          | some oc => (match oc.data with
            | .fields vs => (match (vs[11]? : Option Value) with
              | some (.ref P) => (match K.lookup P with
                | none => some (c, P)
                | some _ => none)
              | _ => none)
            | _ => none)
          | none => none)
        | _ => none)
      | _ => none)
    | none => none)
  | _ => none
theorem tabOf_lam {K : PySem.W.Frag} {mg : Str → Option Value} {h : Heap} {x : Str} {c P : Addr} (X : K.In h) (G : h.Ns mainGlobals mg) (e : tabOf K x = some (c, P)) : LamT K mg x c P := by
  unfold tabOf at e
  split at e
  · rename_i f h1
    split at e
    · rename_i o h2
      split at e
      · rename_i fd h3
        split at e
        · rename_i c' h4
          split at e
          · rename_i oc h5
            split at e
            · rename_i vs h6
              split at e
              · rename_i P' h7
                split at e
                · rename_i h8
                  cases e
                  exact ⟨⟨f, o, oc, fd, vs, PySem.W.mg_of X G h1, h2, h3, h4, h5, h6, h7⟩, h8⟩
                · cases e
              · cases e
            · cases e
          · cases e
        · cases e
      · cases e
    · cases e
  · cases e
/-- two defs hold lambdas, by unlike tables -/
def tabs2 (K : PySem.W.Frag) (x y : Str) : Bool := match tabOf K x, tabOf K y with
  | some p, some q => p.2 != q.2
  | _, _ => false
theorem tabs2_of {K : PySem.W.Frag} {mg : Str → Option Value} {h : Heap} {x y : Str} (X : K.In h) (G : h.Ns mainGlobals mg) (e : tabs2 K x y = true) : ∃ c1 P1 c2 P2, LamT K mg x c1 P1 ∧ LamT K mg y c2 P2 ∧ P1 ≠ P2 := by
  unfold tabs2 at e
  split at e
  · rename_i p q h1 h2
    exact ⟨p.1, p.2, q.1, q.2, tabOf_lam X G h1, tabOf_lam X G h2, fun z => by rw [z] at e; simp at e⟩
  · cases e
def tabs1 (K : PySem.W.Frag) (x : Str) : Bool := (tabOf K x).isSome
theorem tabs1_of {K : PySem.W.Frag} {mg : Str → Option Value} {h : Heap} {x : Str} (X : K.In h) (G : h.Ns mainGlobals mg) (e : tabs1 K x = true) : ∃ c1 P1, LamT K mg x c1 P1 := by
  obtain ⟨p, hp⟩ := Option.isSome_iff_exists.mp e
  exact ⟨p.1, p.2, tabOf_lam X G hp⟩
section
variable {P : Program} {w : World} {K : PySem.W.Frag} {mg : Str → Option Value} {base : Heap}
theorem okGc {x qual : Str} {st : Stmt} {f c : Addr} {fd : FuncData} {N ps : List Str} {k : Nat} {sp : Sp} (F : Fun K x qual st f fd) (ca : CodeAt K f c) (S : FnScope N ps (defScope st))
    (many : ∀ vs H Q E, sp vs H Q E → vs.length = ps.length)
    (body : ∀ (A : Around) (outer : List Env) (s : Shared) (H : Hp) (vs : List V) (Q : VK) (E : XK), A.guards = some [] →
      Room k (A.deeper (envOfC qual (defScope st) s.heap.objs.size f (.ref c))) → sp vs H Q E →
      ∃ t, PSs (cxOf CX0 P w K mg base N qual (defScope st) f (.ref c) A outer s H E).nox (defBody st) t ∧ t { nx := fun _ H' => Q .non H', rt := Q } (start N vs) H) :
    FnG P w K mg base (k + 1) f fd ps sp := by
  obtain ⟨oc, od, kV, doc, pm, an, cdv, ct, osl, rfl, lk, hcd⟩ := F.ex
  obtain ⟨o2, fd2, l2, d2, c2⟩ := ca
  obtain rfl : cdv = Value.ref c := by
    cases lk.symm.trans l2
    cases d2
    exact c2
  refine ⟨many, ?_⟩
  intro A hg room outer s H args us vs Q E e0 bt rv want
  have size := many vs H Q E want
  have kin : K.In s.heap := e0.mod.kin.keeps fun b o e => (e0.bs b o e).1
  have noLim : s.heap.NoLimit := e0.mod.nolimit.keeps fun b o e => (e0.bs b o e).1
  refine codeAny_call_function room.depth (kin _ _ lk) rfl S.co S.gen rfl (PySem.W.codeRec_of kin hcd) (bt _ _ _ _ ?_)
  refine wpAny_newFunctionEnv_cells S.kind ?_ ?_
  · rintro ⟨nm, val⟩ mem
    exact (S.par nm (List.of_mem_zip mem).1).imp id fun c => ⟨c, PySem.W.cellsFrom_some _ _ _ (.inl c)⟩
  · rintro env rfl s1 entry
    refine ⟨noLim.keeps entry.toInCall.keep, codeAny_func ?_⟩
    obtain ⟨t, ht, now⟩ := body A outer s H vs Q E hg (room.deeper _) want
    have J := inv_start (CX := CX0) (E := E) S room.hd e0 size rv entry
    refine wpAny_mono (ht.nox.run [] s1 (start N vs) H _ J now) (fun way s2 out => ?_) fun _ _ z => z
    cases way with
    | ret u =>
      obtain ⟨v, σ2, H2, J2, ru, q2⟩ := out
      exact ⟨v, H2, J2.os, J2.bare, J2.base, J2.hok, ru, q2⟩
    | next =>
      obtain ⟨σ2, H2, J2, q2⟩ := out
      exact ⟨V.non, H2, J2.os, J2.bare, J2.base, J2.hok, rfl, q2⟩
    | brk => exact out.elim fun _ z => z.elim fun _ y => y.2.elim
    | cont => exact out.elim fun _ z => z.elim fun _ y => y.2.elim
end
section
variable {X : Cx}
/-- x(lambda: body), x a def of the law's with the one parameter a -/
theorem pe_tells {T : List (Addr × Str)} {TT : (XK → Hp → VK → Prop) → Hp → VK → Prop} {x a : Str} {st : Stmt} {Ng : List Str} {c Pt : Addr} {k j : Nat} {params : Arguments} {body : Expr} {scope : Scope} {t : XK → TE} {p lpos pos : Pos}
    (A : At X.K X.mg x st) (bd : ∀ (f : Addr) (fd : FuncData), Fun X.K x x st f fd → Binds X.K fd [a] []) (Sg : FnScope Ng [a] (defScope st)) (hN : Ng[0]? = some a) (hva : Vis (defScope st) a)
    (hG : ∀ (g : Addr) (cdg : Value), GivesTo X Ng x (defScope st) g cdg (defBody st) a (X.env.qual ++ "<lambda>") TT) (hg : Gl X x) (TB : TabB X.base X.mg c Pt) (hcode : X.env.code = .ref c)
    (hmT : (Pt, X.env.qual ++ "<lambda>") ∈ T) (hu : ∀ p ∈ T, p.1 = Pt → p.2 = X.env.qual ++ "<lambda>") (hr : Room j X.A) (hk : k + 2 ≤ j) (L : LamS X.env.scope scope)
    (hbody : ∀ (A : Around) (outer : List Env) (s : Shared) (H : Hp) (E : XK) (f c' : Addr), Room k (A.deeper (lamEnv X scope s.heap.objs.size f c')) → PE (lamCx X A outer s H E scope f c') body (t E))
    (hdef : defaultsOf params X.env = ([], []) := by rfl)
    (hbind : ∀ (q : Str) (cl : List (Str × Addr)) (pm cv ctv : Value), bindArgs (PySem.W.kla_fn "<lambda>" q params body scope cl pm cv ctv) ⟨[], []⟩ = pure [] := by exact fun _ _ _ _ _ => rfl)
    (hdb : (x == ("__debug__" : Str)) = false := by decide) (hd : (a == ("__debug__" : Str)) = false := by decide) (hcd : (a == ("__classdict__" : Str)) = false := by decide) :
    PE X (.Call (.Name x p) [.Lambda params body scope lpos] [] pos) (tLam T TT t) := by
  obtain ⟨g, fd, F, m⟩ := A.ex
  have b := bd g fd F
  have kp := F.kp
  obtain ⟨oc, od, kV, doc, pm, an, cdv, ct, osl, rfl, lk, hc⟩ := F.ex
  exact pe_lamcall hg m kp lk hc b Sg hN hva (hG g cdv) TB hcode hmT hu (hr.mono hk) L hdef hbind hbody hdb hd hcd
end
end Rt
namespace GQ
open PySem PySem.Spec PySem.SeqAt
open AutoSeq1 (wpAny_loadPart')
open MeetsSeq MeetsSeq2 MeetsSeq3 SeqRoads2
section
variable {prog : Program} {w : World} {A : Around} {R : Result → Shared → Prop}
/-- != of two lists whose items are found to be equal one by one -/
theorem ne_loopG (l b : Addr) (N : Nat) (I : Nat → Shared → Prop) (look : ListI prog w A (fun e s' => R (.error e) s') l b N I) (done : ∀ s, I N s → R (.ok (.ret (.bool false))) s) :
    ∀ (k i : Nat), N - i = k → i ≤ N → ∀ s, I i s → wpAny (model prog w) A.in1 (Builtin.«list.__eq__.loop» ⟨[.ref l, .ref b, rawInt i, rawInt 3], []⟩) (FinOf prog w A R) (fun e s' => R (.error e) s') s := by
  intro k
  induction k with
  | zero =>
    intro i ek le s now
    obtain ⟨xs, ys, n1, n2, atL, atB, z1, z2, _⟩ := look _ _ now
    obtain rfl : i = N := by omega
    have ends := done s now
    obtain ⟨hp, g, d, tk, os⟩ := s
    have no1 : xs[((i : Nat) : Int).toNat]? = none := by simp; omega
    have no2 : ys[((i : Nat) : Int).toNat]? = none := by simp; omega
    wp_walk using wpAny_loadPart' atL, wpAny_loadPart' atB
    rw [no1, no2]
    wp_walk using wpAny_loadPart' atL, wpAny_loadPart' atB
    show R (.ok (.ret (.bool (xs.size != ys.size)))) _
    rw [z1, z2]
    simpa using ends
  | succ k ih =>
    intro i ek le s now
    obtain ⟨xs, ys, n1, n2, atL, atB, z1, z2, step⟩ := look _ _ now
    have lt1 : i < xs.size := by omega
    have lt2 : i < ys.size := by omega
    have this_ := step lt1 lt2
    obtain ⟨hp, g, d, tk, os⟩ := s
    have is1 : xs[((i : Nat) : Int).toNat]? = some xs[i] := by simp [lt1]
    have is2 : ys[((i : Nat) : Int).toNat]? = some ys[i] := by simp [lt2]
    have next : ((i : Int) + 1) = ((i + 1 : Nat) : Int) := by omega
    wp_walk using wpAny_loadPart' atL, wpAny_loadPart' atB
    rw [is1, is2]
    refine wpAny_bind (wpAny_mono this_ ?_ fun _ _ z => z)
    rintro r s2 ⟨rfl, now2⟩
    have more := ih (i + 1) (by omega) (by omega) s2 now2
    obtain ⟨hp2, g2, d2, tk2, os2⟩ := s2
    wp_walk
    rw [next]
    refine ⟨plainId_quiet plain_eq_loop _, codeAny_builtin entry_eq_loop ?_⟩
    rw [Around.under_plainId plain_eq_loop _]
    exact more
theorem list_neG (l b : Addr) (N : Nat) (I : Nat → Shared → Prop) (look : ListI prog w A (fun e s' => R (.error e) s') l b N I) (done : ∀ s, I N s → R (.ok (.ret (.bool false))) s) {s : Shared} (now : I 0 s) :
    wpAny (model prog w) A.in1 (Builtin.«list.__ne__» ⟨[.ref l, .ref b], []⟩) (FinOf prog w A R) (fun e s' => R (.error e) s') s := by
  obtain ⟨xs, ys, n1, n2, atL, atB, z1, z2, _⟩ := look _ _ now
  have more := ne_loopG (A := A) (R := R) l b N I look done _ 0 rfl (Nat.zero_le _) s now
  obtain ⟨hp, g, d, tk, os⟩ := s
  have isL := AutoSeq1.sub_list_list
  have alike : ¬ (xs.size != ys.size) = true := by simp [z1, z2]
  wp_walk using wpAny_loadPart' atL, wpAny_loadPart' atB
  refine ⟨plainId_quiet plain_eq_loop _, codeAny_builtin entry_eq_loop ?_⟩
  rw [Around.under_plainId plain_eq_loop _]
  exact more
end
section
variable {prog : Program} {w : World} {A : Around} {E : Value → Shared → Prop} {s : Shared}
theorem rc_neG {l b : Addr} {N : Nat} {Q : Value → Shared → Prop} (hu : A.units < cLine) (I : Nat → Shared → Prop) (look : ListI prog w A E l b N I) (done : ∀ s, I N s → Q (.bool false) s) (now : I 0 s) :
    wpAny (model prog w) A (richCompare .NotEq (.ref l) (.ref b)) Q E s := by
  obtain ⟨xs, ys, n1, n2, atL, atB, _, _, _⟩ := look _ _ now
  refine wpAny_richCompare_same_room (op := .NotEq) ⟨_, atL, rfl⟩ ⟨_, atB, rfl⟩ F.slot_list_ne ?_ hu
  refine call_here F.slot_list_ne ⟨_, atL, rfl⟩ F.entry_list_ne (F.args_list_ne_2 _ _) ?_
  exact list_neG (R := wants (fun v s' => v ≠ .notImplemented ∧ Q v s') E) l b N I look (fun s' q => ⟨nofun, done s' q⟩) now
end
end GQ
namespace Rt
open PySem PySem.Spec L2
open PyProof.Rows hiding St
section
variable {X : Cx} {n : Nat} {D : Eqv}
/-- xs != ys, both of items that are equal one by one -/
def rNeG (D : Eqv) : R2 := fun x y H Q => D x y H ∧ ∀ H', Ext H H' → Q (.bl false) H'
theorem op_neG (mono : Mon D) (h : EqG X n D) (room : Room (n + 1) X.A) : OpR X (compareOp .NotEq) (rNeG (DList D)) := by
  rintro pins s σ H x y v u Q I rx ry ⟨⟨a, b, xs, ys, rfl, rfl, ha, hb, p⟩, k⟩
  cases rx
  cases ry
  show wpAny (model X.prog X.w) X.A (richCompare .NotEq _ _) (EP X pins σ Q) X.xe s
  have sb : Sub X (n + 1) X.A := ⟨room, rfl⟩
  refine GQ.rc_neG (N := xs.length) room.units0 (fun _ s' => LoopI X pins σ H s') ?_ ?_ ⟨H, I, Ext.rfl'⟩
  · rintro i s' ⟨H1, I1, e1⟩
    obtain ⟨_, its, m1, r1, at1⟩ := I1.hok a _ (e1 _ _ ha)
    obtain ⟨_, jts, m2, r2, at2⟩ := I1.hok b _ (e1 _ _ hb)
    refine ⟨its.toArray, jts.toArray, m1, m2, at1, at2, ?_, ?_, fun h1 h2 => turnG mono h sb p r1 r2 i h1 h2 s' ⟨H1, I1, e1⟩⟩
    · rw [List.size_toArray, ← r1.length]
    · rw [List.size_toArray, ← r2.length, ← p.1]
  · rintro s' ⟨H1, I1, e1⟩
    exact ⟨.bl false, H1, I1, rfl, k H1 e1⟩
end
end Rt
namespace L15
open PySem PySem.Spec L2 Rt Rs Ld
open PyProof.Rows hiding St

/-! ### plain values and the judge of a lead's parts -/
mutual
inductive Pv (H : Hp) : V → PyData → Prop
  | non : Pv H .non .none
  | bl (b : Bool) : Pv H (.bl b) (.bool b)
  | int (i : Int) : Pv H (.int i) (.int i)
  | str (x : Str) : Pv H (.str x) (.str x)
  | lst {a : Addr} {xs : List V} {ds : List PyData} : H a = some (.lst xs) → PvAll H xs ds → Pv H (.ref a) (.list ds)
  | tup {a : Addr} {xs : List V} {ds : List PyData} : H a = some (.tup xs) → PvAll H xs ds → Pv H (.ref a) (.tuple ds)
  | dic {a : Addr} {kvs : List (Key × V)} {ds : List PyData} : H a = some (.dK kvs) → PvAll H (kvs.map (·.2)) ds → Pv H (.ref a) (.dict ((kvs.map fun p => kd p.1).zip ds))
inductive PvAll (H : Hp) : List V → List PyData → Prop
  | nil : PvAll H [] []
  | cons {v : V} {vs : List V} {d : PyData} {ds : List PyData} : Pv H v d → PvAll H vs ds → PvAll H (v :: vs) (d :: ds)
end
mutual
theorem Pv.same {H H' : Hp} (s : Same H H') : ∀ (v : V) (d : PyData), Pv H v d → Pv H' v d
  | _, _, .non => .non
  | _, _, .bl b => .bl b
  | _, _, .int i => .int i
  | _, _, .str x => .str x
  | _, _, .lst h a => .lst (s _ _ h) (PvAll.same s _ _ a)
  | _, _, .tup h a => .tup (s _ _ h) (PvAll.same s _ _ a)
  | _, _, .dic h a => .dic (s _ _ h) (PvAll.same s _ _ a)
theorem PvAll.same {H H' : Hp} (s : Same H H') : ∀ (vs : List V) (ds : List PyData), PvAll H vs ds → PvAll H' vs ds
  | _, _, .nil => .nil
  | _, _, .cons h t => .cons (Pv.same s _ _ h) (PvAll.same s _ _ t)
end
mutual
theorem Pv.ext {H H' : Hp} (s : LamX.ExtN H H') : ∀ (v : V) (d : PyData), Pv H v d → Pv H' v d
  | _, _, .non => .non
  | _, _, .bl b => .bl b
  | _, _, .int i => .int i
  | _, _, .str x => .str x
  | _, _, .lst h a => .lst (s _ _ h (by nofun)) (PvAll.ext s _ _ a)
  | _, _, .tup h a => .tup (s _ _ h (by nofun)) (PvAll.ext s _ _ a)
  | _, _, .dic h a => .dic (s _ _ h (by nofun)) (PvAll.ext s _ _ a)
theorem PvAll.ext {H H' : Hp} (s : LamX.ExtN H H') : ∀ (vs : List V) (ds : List PyData), PvAll H vs ds → PvAll H' vs ds
  | _, _, .nil => .nil
  | _, _, .cons h t => .cons (Pv.ext s _ _ h) (PvAll.ext s _ _ t)
end
mutual
theorem Pv.dx {K : PySem.W.Frag} {H : Hp} : ∀ (v : V) (d : PyData), Pv H v d → Dx K H v d
  | _, _, .non => .non
  | _, _, .bl b => .bl b
  | _, _, .int i => .int i
  | _, _, .str x => .str x
  | _, _, .lst h a => .lst (SqL.of h) (PvAll.dx _ _ a)
  | _, _, .tup h a => .tup (SqT.of h) (PvAll.dx _ _ a)
  | _, _, .dic h a => .dic h (PvAll.dx _ _ a)
theorem PvAll.dx {K : PySem.W.Frag} {H : Hp} : ∀ (vs : List V) (ds : List PyData), PvAll H vs ds → DxAll K H vs ds
  | _, _, .nil => .nil
  | _, _, .cons h t => .cons (Pv.dx _ _ h) (PvAll.dx _ _ t)
end
theorem Pv.od {H : Hp} {v : V} {d : PyData} (h : Pv H v d) : Od H v := by
  cases h with
  | non => exact True.intro
  | bl b => exact True.intro
  | int i => exact True.intro
  | str x => exact True.intro
  | lst h a => exact ⟨_, _, h, rfl⟩
  | tup h a => exact ⟨_, _, h, rfl⟩
  | dic h a => exact ⟨_, _, h, rfl⟩
theorem PvAll.len {H : Hp} : ∀ {vs : List V} {ds : List PyData}, PvAll H vs ds → vs.length = ds.length
  | _, _, .nil => rfl
  | _, _, .cons _ t => congrArg (· + 1) t.len
theorem PvAll.at_ {H : Hp} : ∀ {vs : List V} {ds : List PyData} {i : Nat} {v : V}, PvAll H vs ds → vs[i]? = some v → ∃ d, ds[i]? = some d ∧ Pv H v d
  | _, _, i, _, .nil, e => by simp at e
  | _, _, 0, _, .cons h t, e => by
    cases (Option.some.inj e)
    exact ⟨_, rfl, h⟩
  | _, _, i + 1, _, .cons h t, e => t.at_ (i := i) e
theorem pvAll_ints {H : Hp} : ∀ ks : List Int, PvAll H (ks.map V.int) (ks.map PyData.int)
  | [] => .nil
  | k :: ks => .cons (.int k) (pvAll_ints ks)
theorem PvAll.ints {H : Hp} : ∀ {vs : List V} {ks : List Int}, PvAll H vs (ks.map PyData.int) → vs = ks.map V.int
  | [], [], _ => rfl
  | _ :: _, k :: ks, .cons h t => by
    cases h
    rw [List.map_cons, t.ints]
def isIntD : PyData → Bool
  | .int _ => true
  | _ => false
def onD (f s : Int) : PyData → Bool
  | .int i => decide ((i - f) % s = 0)
  | _ => false
theorem Pv.isI {H : Hp} {v : V} {d : PyData} (h : Pv H v d) : isI v = isIntD d := by cases h <;> rfl
theorem Pv.onB {H : Hp} {v : V} {d : PyData} (h : Pv H v d) (f s : Int) : onB f s v = onD f s d := by cases h <;> rfl
def clkOf : List PyData → Option (Int × Int)
  | [.int f, .int s] => if 1 ≤ s ∧ s ≤ 60 then some (f, s) else none
  | _ => none
/-- the clock that a value is -/
def clkD : PyData → Option (Int × Int)
  | .tuple ds => clkOf ds
  | _ => none
def seqD : PyData → Option (List PyData)
  | .list ds => some ds
  | .tuple ds => some ds
  | _ => none
def intD : PyData → Int
  | .int i => i
  | _ => 0
/-- the first place from i on where a test fails -/
def firstNot (p : Nat → Bool) : Nat → Nat → Option Nat
  | _, 0 => none
  | i, n + 1 => if p i then firstNot p (i + 1) n else some i
theorem firstNot_none {p : Nat → Bool} : ∀ {i n : Nat}, (∀ j, i ≤ j → j < i + n → p j = true) → firstNot p i n = none
  | _, 0, _ => rfl
  | i, n + 1, h => by
    rw [firstNot, h i (Nat.le_refl _) (by omega)]
    exact firstNot_none fun j a b => h j (by omega) (by omega)
theorem firstNot_some {p : Nat → Bool} : ∀ {n i k : Nat}, i ≤ k → k < i + n → (∀ j, i ≤ j → j < k → p j = true) → p k = false → firstNot p i n = some k
  | 0, i, k, a, b, _, _ => by omega
  | n + 1, i, k, a, b, h, e => by
    rw [firstNot]
    by_cases z : i = k
    · subst z
      rw [e]
      rfl
    · rw [h i (Nat.le_refl _) (by omega)]
      exact firstNot_some (by omega) (by omega) (fun j x y => h j (by omega) y) e
theorem firstNot_all {p : Nat → Bool} : ∀ {n i : Nat}, firstNot p i n = none → ∀ j, i ≤ j → j < i + n → p j = true
  | 0, i, _, j, a, b => by omega
  | n + 1, i, h, j, a, b => by
    rw [firstNot] at h
    cases e : p i with
    | false => rw [e] at h; cases h
    | true =>
      rw [e] at h
      by_cases z : i = j
      · subst z
        exact e
      · exact firstNot_all (i := i + 1) h j (by omega) (by omega)
/-- the path of the first wrong member of a row of the right length -/
def rowBad (g r n : Int) (ds : List PyData) : Option (List Int) :=
  match firstNot (fun k => onD g r (ds.getD k .none)) 0 ds.length with
  | some k => some [3, (k : Int)]
  | none => match firstNot (fun k => decide (intD (ds.getD (k - 1) .none) ≤ intD (ds.getD k .none))) 1 (ds.length - 1) with
    | some k => some [4, (k : Int)]
    | none => if intD (ds.getD 0 .none) + n < intD (ds.getD (ds.length - 1) .none) then some [4, 0] else none
def perOk (n s r : Int) : Bool := decide (1 ≤ n) && (decide (n % s = 0) && decide (n % r = 0))
/-- the path of the first wrong part of what should be a lead -/
def badD (b e p row : PyData) : Option (List Int) :=
  match clkD b with
  | none => some [0]
  | some (_, s) => match clkD e with
    | none => some [1]
    | some (g, r) => if isIntD p && perOk (intD p) s r then
        match seqD row with
        | none => some [3]
        | some ds => if (ds.length : Int) * s = intD p then rowBad g r (intD p) ds else some [3]
      else some [2]
theorem clkOf_some {ds : List PyData} {f s : Int} (h : clkOf ds = some (f, s)) : ds = [.int f, .int s] ∧ 1 ≤ s ∧ s ≤ 60 := by
  unfold clkOf at h
  split at h
  · split at h
    · cases h
      exact ⟨rfl, by assumption⟩
    · cases h
  · cases h
theorem clkD_some {d : PyData} {f s : Int} (h : clkD d = some (f, s)) : d = .tuple [.int f, .int s] ∧ 1 ≤ s ∧ s ≤ 60 := by
  cases d with
  | tuple ds =>
    obtain ⟨a, b⟩ := clkOf_some h
    exact ⟨by rw [a], b⟩
  | _ => cases h
/-- a row in which nothing is wrong -/
theorem rowBad_none {f s g r n : Int} {ds : List PyData} (s0 : 1 ≤ s) (r0 : 1 ≤ r) (per : perOk n s r = true) (len : (ds.length : Int) * s = n) (h : rowBad g r n ds = none) : ∃ ks : List Int, ds = ks.map PyData.int ∧ Rok f s g r n ks := by
  unfold perOk at per
  simp only [Bool.and_eq_true, decide_eq_true_eq] at per
  obtain ⟨n1, ns, nr⟩ := per
  unfold rowBad at h
  cases h1 : firstNot (fun k => onD g r (ds.getD k .none)) 0 ds.length with
  | some k => rw [h1] at h; cases h
  | none =>
    rw [h1] at h
    have all := firstNot_all h1
    cases h2 : firstNot (fun k => decide (intD (ds.getD (k - 1) .none) ≤ intD (ds.getD k .none))) 1 (ds.length - 1) with
    | some k => rw [h2] at h; cases h
    | none =>
      rw [h2] at h
      have mono := firstNot_all h2
      by_cases h3 : intD (ds.getD 0 .none) + n < intD (ds.getD (ds.length - 1) .none)
      · exfalso
        simp only [if_pos h3] at h
        cases h
      · have eds : ds = (ds.map intD).map PyData.int := by
          refine List.ext_getElem? fun i => ?_
          rw [List.getElem?_map, List.getElem?_map]
          cases e : ds[i]? with
          | none => rfl
          | some d =>
            have lt := (List.getElem?_eq_some_iff.mp e).1
            have q := all i (Nat.zero_le _) (by omega)
            simp only [List.getD_eq_getElem?_getD, e, Option.getD_some] at q
            cases d with
            | int i => rfl
            | _ => cases q
        have gets : ∀ i, intD (ds.getD i .none) = (ds.map intD).getD i 0 := fun i => by
          rw [List.getD_eq_getElem?_getD, List.getD_eq_getElem?_getD, List.getElem?_map]
          cases ds[i]? <;> rfl
        have lenM : (ds.map intD).length = ds.length := List.length_map ..
        have chain : ∀ i j, i ≤ j → j < ds.length → (ds.map intD).getD i 0 ≤ (ds.map intD).getD j 0 := fun i j ij jl => by
          induction j with
          | zero =>
            cases Nat.le_zero.mp ij
            exact Int.le_refl _
          | succ j ih =>
            rcases Nat.lt_or_ge i (j + 1) with lt | ge
            · have a := ih (by omega) (by omega)
              have b := mono (j + 1) (by omega) (by omega)
              simp only [decide_eq_true_eq, Nat.add_sub_cancel, gets] at b
              omega
            · cases (show i = j + 1 by omega)
              exact Int.le_refl _
        have pos : 0 < ds.length := by
          rcases Nat.eq_zero_or_pos ds.length with z | z
          · rw [z] at len
            omega
          · exact z
        have atM : ∀ x, x ∈ ds.map intD → ∃ i, i < ds.length ∧ (ds.map intD).getD i 0 = x := fun x m => by
          obtain ⟨i, e⟩ := List.getElem?_of_mem m
          have lt := (List.getElem?_eq_some_iff.mp e).1
          exact ⟨i, by omega, by rw [List.getD_eq_getElem?_getD, e]; rfl⟩
        refine ⟨ds.map intD, eds, by omega, by omega, by omega, Int.dvd_of_emod_eq_zero ns, Int.dvd_of_emod_eq_zero nr, ?_, ?_, ?_, ?_⟩
        · rw [lenM, ← len, Int.mul_ediv_cancel _ (by omega)]
          rfl
        · intro x m
          obtain ⟨i, lt, e⟩ := atM x m
          have q := all i (Nat.zero_le _) (by omega)
          have q : onD g r (ds.getD i .none) = true := q
          have g1 := gets i
          cases e2 : ds.getD i .none with
          | int z =>
            rw [e2] at q g1
            have g1 : z = (ds.map intD).getD i 0 := g1
            rw [← e, ← g1]
            exact of_decide_eq_true q
          | _ => rw [e2] at q; cases q
        · refine List.pairwise_iff_getElem.mpr fun i j hi hj ij => ?_
          have q := chain i j (Nat.le_of_lt ij) (by omega)
          rw [List.getD_eq_getElem?_getD, List.getD_eq_getElem?_getD, List.getElem?_eq_getElem hi, List.getElem?_eq_getElem hj] at q
          exact q
        · intro x y hx hy
          obtain ⟨i, il, rfl⟩ := atM x hx
          obtain ⟨j, jl, rfl⟩ := atM y hy
          have a := chain 0 i (Nat.zero_le _) il
          have b := chain j (ds.length - 1) (by omega) (by omega)
          rw [gets, gets] at h3
          omega
/-- parts in which nothing is wrong tell a lead -/
theorem badD_none {b e p row : PyData} (h : badD b e p row = none) : ∃ f s g r n ds ks, b = .tuple [.int f, .int s] ∧ e = .tuple [.int g, .int r] ∧ p = .int n ∧ seqD row = some ds ∧ ds = ks.map PyData.int ∧ Rok f s g r n ks ∧ s ≤ 60 ∧ r ≤ 60 := by
  unfold badD at h
  cases h1 : clkD b with
  | none => rw [h1] at h; cases h
  | some x =>
    obtain ⟨f, s⟩ := x
    rw [h1] at h
    obtain ⟨rfl, s0, s1⟩ := clkD_some h1
    simp only at h
    cases h2 : clkD e with
    | none => rw [h2] at h; cases h
    | some y =>
      obtain ⟨g, r⟩ := y
      rw [h2] at h
      obtain ⟨rfl, r0, r1⟩ := clkD_some h2
      simp only at h
      cases h3 : isIntD p && perOk (intD p) s r with
      | false => rw [h3] at h; cases h
      | true =>
        rw [h3] at h
        simp only [if_true] at h
        rw [Bool.and_eq_true] at h3
        obtain ⟨ip, per⟩ := h3
        cases p with
        | int n =>
          cases h4 : seqD row with
          | none => rw [h4] at h; cases h
          | some ds =>
            rw [h4] at h
            have h : (if (ds.length : Int) * s = n then rowBad g r n ds else some [3]) = none := h
            by_cases h5 : (ds.length : Int) * s = n
            · rw [if_pos h5] at h
              obtain ⟨ks, ek, rok⟩ := rowBad_none (f := f) s0 r0 per h5 h
              exact ⟨f, s, g, r, n, ds, ks, rfl, rfl, rfl, rfl, ek, rok, s1, r1⟩
            · rw [if_neg h5] at h
              cases h
        | _ => cases ip
end L15
namespace PySem
section
variable {prog : Program} {w : World} {A : Around} {E : Value → Shared → Prop} {s : Shared}
set_option maxHeartbeats 1000000 in
theorem meets_enumerate_newT {v : Value} {o : Obj} {H : Heap → Prop} (B : Begins v o H) :
    Meets (Builtin.«enumerate.__new__» ⟨[.type "enumerate", v], []⟩) (fun _ R s => H s.heap ∧
      R (.ok (.ret (.ref (s.heap.push o).objs.size))) { s with heap := (s.heap.push o).push { cls := .type "enumerate", data := .fields #[.none, .bool false, .ref s.heap.objs.size, rawInt 0, .none, .none] } }) :=
  .of_wp fun prog w A R s h => by
    obtain ⟨hp, g, d, tk, os⟩ := s; obtain ⟨h1, h⟩ := h
    have hsub := sub_enumerate
    have q1 : ∀ {A' : Around} {E : Value → Shared → Prop} {Q : Value → Shared → Prop}, Q (.ref hp.objs.size) ⟨hp.push o, g, d, tk, os⟩ → wpAny (model prog w) A' (pyIter v) Q E ⟨hp, g, d, tk, os⟩ :=
      fun q => B.iter prog w _ _ ⟨hp, g, d, tk, os⟩ _ h1 q
    wp_walk using q1
    refine wpAny_stack_any fun st => wpAny_pure ?_
    split
    · rename_i c _ _ _ _ _
      cases (c == Value.type "enumerate")
      · wp_walk using q1
        exact ⟨_, rfl, h⟩
      · wp_walk using q1
        exact ⟨_, rfl, h⟩
    · wp_walk using q1
      exact ⟨_, rfl, h⟩
theorem enum_one {v : Value} {o : Obj} {H : Heap → Prop} {Q : Value → Shared → Prop} (B : Begins v o H) (h1 : H s.heap)
    (h : ∀ h', IsEnum h' (s.heap.objs.size + 1) s.heap.objs.size 0 .none → h'.get? s.heap.objs.size = some o → h'.objs.size = s.heap.objs.size + 2 →
      (∀ b o, s.heap.get? b = some o → h'.get? b = some o) → Q (.ref (s.heap.objs.size + 1)) { s with heap := h' }) :
    wpAny (model prog w) A (call (.type "enumerate") [v]) Q E s := by
  refine callType_new F.called_enumerate (by decide) (F.typeCall_enumerate_1 _) (F.newCall_enumerate_1 _) (fun obj => F.args_object_init_2 obj _) F.entry_enumerate_new
    (meets_enumerate_newT B) ⟨h1, ?_⟩
  have hz : (s.heap.push o).objs.size = s.heap.objs.size + 1 := Heap.size_push ..
  show _ ∧ _
  rw [hz]
  have he : IsEnum ((s.heap.push o).push { cls := .type "enumerate", data := .fields #[.none, .bool false, .ref s.heap.objs.size, rawInt 0, .none, .none] }) (s.heap.objs.size + 1) s.heap.objs.size 0 .none := by
    have := Heap.get?_push_size (s.heap.push o) (o := { cls := .type "enumerate", data := .fields #[.none, .bool false, .ref s.heap.objs.size, rawInt 0, .none, .none] }) rfl
    rw [hz] at this; exact this
  refine ⟨⟨_, he, rfl⟩, h _ he (Heap.get?_push_of_some _ (Heap.get?_push_size _ B.free)) (by rw [Heap.size_push, hz]) fun b o x => Heap.get?_push_of_some _ (Heap.get?_push_of_some _ x)⟩
end
end PySem
namespace Rt
open PySem PySem.Spec L2
open PyProof.Rows hiding St
/-! ### enumerate over what is a list or a tuple -/
def IeT (K : PySem.W.Frag) (a : Addr) : It :=
  ⟨fun i H => ∃ (xs : List V) (x : V), SqT K H a xs ∧ xs[i]? = some x, fun i H v H' => ∃ T x, v = .ref T ∧ H T = none ∧ H' = upd H T (.tup [.int (i : Nat), x]) ∧ ∀ xs, SqT K H a xs → xs[i]? = some x, fun i H => ∃ xs : List V, SqT K H a xs ∧ xs.length ≤ i⟩
theorem turn_enumT {P : Program} {w : World} {K : PySem.W.Frag} {elts : List Expr} {kk : Nat} {tpos : Pos} (a e it : Addr) :
    Turn P w K (.Tuple elts kk tpos) (IeT K a) [e, it] e (fun i h => (∃ old, IsEnum h e it ((i : Nat) : Int) old) ∧ h.IsTupleIter it a i ∧ e ≠ it) where
  mem := by simp
  obj := fun i h st b hb => by
    obtain ⟨⟨old, he⟩, ⟨o, ho, hc, hd⟩, _⟩ := st
    have e' : b = e ∨ b = it := by simpa using hb
    rcases e' with z | z
    · rw [z]; exact ⟨_, he, fun v q => nomatch q⟩
    · rw [z]; exact ⟨o, ho, fun v q => by rw [hd] at q; cases q⟩
  keep := fun i h h' st k => let ⟨⟨old, he⟩, hi, hne⟩ := st; ⟨⟨old, k e (by simp) _ he⟩, hi.at fun o q => k it (by simp) o q, hne⟩
  item := by
    intro X hP hw hK hc i pins s σ H E I hf st hg
    subst hP hw hK
    obtain ⟨⟨old, he⟩, hit, hne⟩ := st
    obtain ⟨xs, x, hq, hx⟩ := hg
    obtain ⟨its, rv, p, hz⟩ := I.tuple hq
    obtain ⟨u, hu, ru⟩ := rv.get hx
    have pT : s.heap.IsTuple a its.toArray := p
    have hel : e < s.heap.objs.size := Heap.lt_size he
    have hil : it < s.heap.objs.size := by obtain ⟨_, q, _⟩ := hit; exact Heap.lt_size q
    have ea : e ≠ a := fun z => by
      obtain ⟨o, ho, hc, _⟩ := pT
      rw [z] at he
      rw [he] at ho
      cases ho
      simp at hc
    have ta : a ≠ it := fun z => by
      obtain ⟨o, ho, hc, _⟩ := pT
      obtain ⟨o', ho', hc', _⟩ := hit
      rw [z, ho'] at ho
      cases ho
      rw [hc'] at hc
      simp at hc
    refine wpAny_pyNext_enum_itemD (Draws.tuple (A := X.A.in1) (show X.A.in1.handled = none from I.ok.hd hc) it a ta its.toArray) he ⟨hit, pT⟩ (i := i) ?_ hne (by simp [hne, ea]) fun u2 h' tk hP2 ho st2 hT hsz hk => ?_
    · have := (List.getElem?_eq_some_iff.mp hu).1
      simpa using this
    have eu : u2 = u := by
      have q : its.toArray[i]? = some u2 := hP2
      rw [List.getElem?_toArray, hu] at q
      exact (Option.some.inj q).symm
    subst eu
    obtain ⟨hit', _⟩ := st2
    refine ⟨_, rfl, wpAny_letOwnedTupleGo_enum (s := { s with heap := h', toks := tk + 1 }) ho fun h'' he' sb => ?_⟩
    have hT2 : h''.get? s.heap.objs.size = some { cls := .type "tuple", data := .seq #[.int i tk, u2] } := (sb.2 _ (Nat.ne_of_gt hel)).trans hT
    have new : ObjOk X.prog X.w (upd H s.heap.objs.size (.tup [.int (i : Nat), x])) h'' s.heap.objs.size (.tup [.int (i : Nat), x]) :=
      ⟨by show 2 ≤ sizeLine; decide, [.int i tk, u2], .cons ⟨_, rfl⟩ (.cons ru .nil), ⟨_, hT2, rfl, _, rfl⟩⟩
    have I1 : Inv X pins σ (upd H s.heap.objs.size (.tup [.int (i : Nat), x])) { s with heap := h'', toks := tk + 1 } :=
      I.turnedNew (ch := [e, it]) (fun b ob hb q => (sb.2 b (fun z => hb (by simp [z]))).trans (hk b ob (fun z => hb (by simp [z])) (fun z => hb (by simp [z])) q)) hf (Nat.le_refl _) new
    refine ⟨.ref s.heap.objs.size, _, I1, rfl, ⟨_, x, rfl, I.hok.fresh (Nat.le_refl _), rfl, fun ys hy => by rw [I.tuple_inj hy hq]; exact hx⟩, ⟨⟨u2, ?_⟩, hit'.at fun o q => (sb.2 it (Ne.symm hne)).trans q, hne⟩, fun b hb => ?_⟩
    · have e1 : ((i + 1 : Nat) : Int) = (i : Int) + 1 := by omega
      rw [e1]; exact he'
    · have hb' : b < s.heap.objs.size := by
        have e' : b = e ∨ b = it := by simpa using hb
        rcases e' with z | z
        · rw [z]; exact hel
        · rw [z]; exact hil
      rw [upd_ne (Nat.ne_of_lt hb')]
      exact (hf b hb).1
  done := by
    intro X hP hw hK hc i pins s σ H E I hf st hg
    subst hP hw hK
    obtain ⟨⟨old, he⟩, hit, hne⟩ := st
    obtain ⟨xs, hq, hx⟩ := hg
    obtain ⟨its, rv, p, hz⟩ := I.tuple hq
    have hl := rv.length
    have pT : s.heap.IsTuple a its.toArray := p
    obtain ⟨f0, f1, f2, f3, f4, f5⟩ := hf it (by simp)
    have ta : a ≠ it := fun z => by
      obtain ⟨o, ho, hc, _⟩ := pT
      obtain ⟨o', ho', hc', _⟩ := hit
      rw [z, ho'] at ho
      cases ho
      rw [hc'] at hc
      simp at hc
    have hh := I.ok.hd hc
    have hT : s.TypeIs (.ref e) "enumerate" := ⟨_, he, rfl⟩
    unfold pyNext
    refine wpAny_bind (wpAny_attempt (wpAny_callSpecial?_slot (name := Str.ofString "__next__") hT F.slot_enumerate_next
      (wpAny_call_entry F.slot_enumerate_next hT F.entry_enumerate_next ?_ (F.args_enumerate_next_1 _))))
    show wpAny _ _ (field (.ref e) 2 >>= _) _ _ _
    refine wpAny_bind (wpAny_field he rfl (x := .ref it) rfl ?_)
    refine wpAny_bind (wpAny_nextOf_tuple_end hh hit pT (by simp; omega) fun h' x he' hx' => ?_)
    obtain ⟨o, ho, hc⟩ := hx'
    refine wpAny_bind (wpAny_isInstance (T := "StopIteration") (b := true) ⟨o, ho, hc⟩ isSubtype_stop ?_)
    exact wpAny_pure ⟨rfl, I.turned (t' := s.toks) (fun b o hb q => he' b o hb q) f0 f1 f3 f4 f5⟩
  self := fun A i s Q E st h => let ⟨⟨_, he⟩, _⟩ := st; wpAny_pyIter_enum he h
def enumR (K : PySem.W.Frag) (R : It → Hp → Prop) (a : Addr) (H : Hp) : Prop := ((∃ xs, SqL K H a xs) ∧ R (Ite K a) H) ∨ ((∃ xs, SqT K H a xs) ∧ R (IeT K a) H)
def iEnumS (K : PySem.W.Frag) (ta : TA) : TI := fun σ H R => ta σ H fun vs H1 => ∃ a, vs = [.ref a] ∧ enumR K R a H1
theorem pi_enumS {X : Cx} {e : Expr} {ta : TA} {p pos tpos : Pos} {elts : List Expr} {kk : Nat} (hg : Gl X "enumerate") (hm : X.mg "enumerate" = none) (ha : PA X [e] ta) (hs : starEach [e] X.env = [(false, eval e X.env)] := by rfl) :
    PI X (.Tuple elts kk tpos) (.Call (.Name "enumerate" p) [e] [] pos) (iEnumS X.K ta) := by
  refine ⟨fun pins s σ H R I h => ?_⟩
  refine Call_ (ld_blt I hg hm boot_enumerate (PyProof.Rows.callWith_type1 (thn (ha.run pos pins s σ H _ I h) fun us s1 ⟨vs, H1, I1, r1, q1⟩ => ?_) hs rfl))
  obtain ⟨a, ex, q1⟩ := q1
  subst ex
  cases r1 with
  | cons r rr =>
    cases rr
    cases r
    rcases q1 with ⟨⟨xs, hq⟩, q⟩ | ⟨⟨xs, hq⟩, q⟩
    · obtain ⟨its, rv, p', hz⟩ := I1.list hq
      refine call_enumerate_list p'.isList fun h' he hit hsz hk => wpAny_pyIter_enum he ?_
      have I2 : Inv X pins σ H1 { s1 with heap := h' } := I1.kept (t' := s1.toks) hk
      refine ⟨s1.heap.objs.size + 1, [s1.heap.objs.size + 1, s1.heap.objs.size], _, _, H1, rfl, I2, turn_enum a (s1.heap.objs.size + 1) s1.heap.objs.size, ⟨⟨.none, he⟩, hit, Nat.succ_ne_self _⟩, fun b hb => ?_, q⟩
      have e' : b = s1.heap.objs.size + 1 ∨ b = s1.heap.objs.size := by simpa using hb
      have hle : s1.heap.objs.size ≤ b := by
        rcases e' with z | z
        · rw [z]; exact Nat.le_add_right _ _
        · rw [z]; exact Nat.le_refl _
      exact I1.fpOk hle (I1.hok.fresh hle)
    · obtain ⟨its, rv, p', hz⟩ := I1.tuple hq
      refine enum_one (begins_tuple a its.toArray) (show s1.heap.IsTuple a its.toArray from p') fun h' he hit hsz hk => wpAny_pyIter_enum he ?_
      have I2 : Inv X pins σ H1 { s1 with heap := h' } := I1.kept (t' := s1.toks) hk
      refine ⟨s1.heap.objs.size + 1, [s1.heap.objs.size + 1, s1.heap.objs.size], _, _, H1, rfl, I2, turn_enumT a (s1.heap.objs.size + 1) s1.heap.objs.size, ⟨⟨.none, he⟩, ⟨_, hit, rfl, rfl⟩, Nat.succ_ne_self _⟩, fun b hb => ?_, q⟩
      have e' : b = s1.heap.objs.size + 1 ∨ b = s1.heap.objs.size := by simpa using hb
      have hle : s1.heap.objs.size ≤ b := by
        rcases e' with z | z
        · rw [z]; exact Nat.le_add_right _ _
        · rw [z]; exact Nat.le_refl _
      exact I1.fpOk hle (I1.hok.fresh hle)
theorem walk_enumT {K : PySem.W.Frag} {a : Addr} {xs : List V} : Walk (IeT K a) xs.length (fun H => SqT K H a xs) (YPair (fun i => some (.int (i : Nat))) (fun i => xs[i]?)) := by
  refine ⟨fun i _ hi q => ⟨xs, xs[i], q, by simp [hi]⟩, fun _ q => ⟨xs, q, Nat.le_refl _⟩, fun i H v H' _ q y => ?_⟩
  obtain ⟨T, x, h1, h2, h3, h4⟩ := y
  exact ⟨T, .int (i : Nat), x, h1, h2, h3, rfl, h4 xs q⟩
end Rt
namespace Rt
open PySem PySem.Spec L2
open PyProof.Rows hiding St
theorem TypeIs.looks {M : Model} {s : Shared} {v : Value} {T : String} (h : s.TypeIs v T) : PySem.W.Looks M s.heap (typeOf v) (.type T) := by
  cases v with
  | ref a =>
    obtain ⟨o, e, c⟩ := h
    exact c ▸ (PySem.W.Looks.ld e).andThen .now
  | _ => exact PySem.W.Looks.of_pure h
/-- own ==, !=: the other one is of a built-in type -/
def rOwnT (K : PySem.W.Frag) (C : Addr) (T : String) (sp : Sp) : R2 := fun x y H Q => ∃ (a dx : Addr) (fs : List (Str × V)), x = .ref a ∧ H a = some (.ins C dx fs) ∧ tyV K T y H ∧ sp [.ref a, y] H (fun v H' => ∃ c : Bool, v = .bl c ∧ Q (.bl c) H') E0
section
variable {X : Cx} {k j : Nat} {C : Addr} {sp : Sp} {T : String}
theorem rc_ownT {op : CmpOp} {m : Str} (hm : (cmpInfo op).2.1 = m) (M : Md X.prog X.w X.K X.mg X.base k C m sp) (hr : Room j X.A) (hk : k ≤ j) (hn : PySem.W.notFirst X.K C (.type T) = true) {pins : List (Addr × Obj)} {s : Shared} {σ : L2.St} {H : Hp} {x y : V} {u v : Value} {Q : VK}
    (I : Inv X pins σ H s) (rx : L2.RelV x u) (ry : L2.RelV y v) (d : rOwnT X.K C T sp x y H Q) : wpAny (model X.prog X.w) X.A (richCompare op u v) (EP X pins σ Q) X.xe s := by
  obtain ⟨a, dx, fs, rfl, ha, hy, hsp⟩ := d
  obtain ⟨f, fd, ps, mt, F, hb⟩ := M.ex
  cases rx
  obtain ⟨mA, J, _⟩ := ins_get I.hok ha
  obtain ⟨od, J, _⟩ := J.look
  have L := TypeIs.looks (M := model X.prog X.w) (tyV_is I ry hy).1
  obtain ⟨mm, hF⟩ := I.fr
  have hr' := hr.mono hk
  refine PySem.W.cmp_K (op := op) (tb := .type T) hr'.units0 hF I.ok.mod.kin J L hn (by rw [hm]; exact mt.at_) mt.fn ?_
  have hl := F.len _ _ _ _ hsp
  have r2 : Vals [V.ref a, y] [Value.ref a, v] := .cons rfl (.cons ry .nil)
  refine wpAny_call (codeAny_mono (F.run X.A X.stack s H ⟨[.ref a, v], []⟩ [.ref a, v] [.ref a, y] _ E0 hr' I.env0 (by
    have := hb s [.ref a, v] I.kIn (by simpa using hl)
    simpa using this) r2 hsp) fun r s' hq => ?_)
  cases r with
  | error e => exact False.elim hq
  | ok fl =>
    cases fl with
    | ret w =>
      obtain ⟨z, H', I', rz, c, rfl, q⟩ := I.after hq
      cases rz
      exact ⟨.bl c, H', I', rfl, q⟩
    | next => exact False.elim hq
    | brk => exact False.elim hq
    | cont => exact False.elim hq
theorem op_ownEqT (M : Md X.prog X.w X.K X.mg X.base k C "__eq__" sp) (hr : Room j X.A) (hk : k ≤ j) (hn : PySem.W.notFirst X.K C (.type T) = true) : OpR X (compareOp .Eq) (rOwnT X.K C T sp) := by
  intro pins s σ H x y v u Q I rx ry hq
  show wpAny (model X.prog X.w) X.A (richCompare .Eq v u) (EP X pins σ Q) X.xe s
  exact rc_ownT rfl M hr hk hn I rx ry hq
theorem op_ownNeT (M : Md X.prog X.w X.K X.mg X.base k C "__ne__" sp) (hr : Room j X.A) (hk : k ≤ j) (hn : PySem.W.notFirst X.K C (.type T) = true) : OpR X (compareOp .NotEq) (rOwnT X.K C T sp) := by
  intro pins s σ H x y v u Q I rx ry hq
  show wpAny (model X.prog X.w) X.A (richCompare .NotEq v u) (EP X pins σ Q) X.xe s
  exact rc_ownT rfl M hr hk hn I rx ry hq
end
theorem first_list {K : PySem.W.Frag} {C : Addr} : PySem.W.notFirst K C (.type "list") = true := by rfl
theorem first_int {K : PySem.W.Frag} {C : Addr} : PySem.W.notFirst K C (.type "int") = true := by rfl
/-! ### methods that may raise -/
structure MdX (P : Program) (w : World) (K : PySem.W.Frag) (mg : Str → Option Value) (base : Heap) (k : Nat) (C : Addr) (m : Str) (sp : Sp) : Prop where
  ex : ∃ (f : Addr) (fd : FuncData) (ps : List Str), Meth K C m f ∧ FnOk P w K mg base (L2.CX P w) k f fd ps sp ∧ Binds K fd ps []
theorem MAt.mdx {P : Program} {w : World} {K : PySem.W.Frag} {mg : Str → Option Value} {base : Heap} {C : Addr} {m qual : Str} {st : Stmt} {k : Nat} {ps : List Str} {sp : Sp} (A : MAt K C m qual st) (ok : ∀ (f : Addr) (fd : FuncData), Fun K m qual st f fd → FnOk P w K mg base (L2.CX P w) k f fd ps sp)
    (bd : ∀ (f : Addr) (fd : FuncData), Fun K m qual st f fd → Binds K fd ps []) : MdX P w K mg base k C m sp := by
  obtain ⟨f, fd, h, F⟩ := A.ex
  exact ⟨f, fd, ps, h, ok f fd F, bd f fd F⟩
section
variable {X : Cx} {k j : Nat} {C : Addr} {m : Str} {sp : Sp} {p pos apos : Pos} {o e : Expr} {es : List Expr} {ta : TE} {t : TA} {W : WX} {E : XK}
theorem pe_mx {pl : Sem Bool} (c : Cls X.K C) (M : MdX X.prog X.w X.K X.mg X.base k C m sp) (hr : Room j X.A) (hk : k ≤ j) (tk : Takes X W) (hW : ∀ cls d σ H, E cls d H → W cls d σ H) (he : PE X o ta) (ha : PA X (e :: es) t)
    (hst : starEach (e :: es) X.env = (false, eval e X.env) :: starEach es X.env := by rfl) (hpl : (backTo pos (starEach es X.env)).any (·.1) = false := by rfl)
    (ht : eval (.Call (.Attribute o m apos) (e :: es) [] pos) X.env = (do
      let ov ← eval o X.env
      standAt apos.atName
      let (f, first) ← holding [ov] (getMethod ov m pl)
      callWith pos f first (backTo pos (starEach (e :: es) X.env)) (backToKw pos (keywordEach [] X.env))) := by rfl) :
    PE X (.Call (.Attribute o m apos) (e :: es) [] pos) (tMeth C m sp [] E ta t) := by
  obtain ⟨f, fd, ps, hm, F, b⟩ := M.ex
  exact pe_meth he c hm F (hr.mono hk) b .nil (passes_call tk hW) ha hst hpl ht
end
end Rt
namespace L15
open PySem PySem.Spec L2 Rt Rs Ld
open PyProof.Rows hiding St

def RetP (H : Hp) (x : Option (List Int)) (v : V) : Prop := match x with
  | none => v = .non
  | some ks => ∃ t, v = .ref t ∧ H t = some (.tup (ks.map V.int))
theorem RetP.same {H H' : Hp} {x : Option (List Int)} {v : V} (h : RetP H x v) (s : Same H H') : RetP H' x v := by
  cases x with
  | none => exact h
  | some ks => obtain ⟨t, e, q⟩ := h; exact ⟨t, e, s _ _ q⟩
theorem Pv.tyTup {K : PySem.W.Frag} {H : Hp} {v : V} {d : PyData} (h : Pv H v d) : (∃ (t : Addr) (xs : List V) (ds : List PyData), v = .ref t ∧ d = .tuple ds ∧ H t = some (.tup xs) ∧ PvAll H xs ds) ∨ (clkD d = none ∧ ∃ T : String, TyX K H v (.type T) ∧ kitB T "tuple" = some false) := by
  cases h with
  | non => exact .inr ⟨rfl, _, .base .non, by decide +kernel⟩
  | bl b => exact .inr ⟨rfl, _, .base (.bl b), by decide +kernel⟩
  | int i => exact .inr ⟨rfl, _, .base (.int i), by decide +kernel⟩
  | str x => exact .inr ⟨rfl, _, .base (.str x), by decide +kernel⟩
  | lst h a => exact .inr ⟨rfl, _, .base (.lst h), by decide +kernel⟩
  | tup h a => exact .inl ⟨_, _, _, rfl, rfl, h, a⟩
  | dic h a => exact .inr ⟨rfl, _, .base (.dK h), by decide +kernel⟩
theorem Pv.tySeq {K : PySem.W.Frag} {H : Hp} {v : V} {d : PyData} (h : Pv H v d) : (∃ (q : Addr) (xs : List V) (ds : List PyData), v = .ref q ∧ seqD d = some ds ∧ Row2 H q xs ∧ PvAll H xs ds) ∨ (seqD d = none ∧ ∃ T : String, TyX K H v (.type T) ∧ PySem.W.kitAny K (.type T) [.type "list", .type "tuple"] = some false) := by
  cases h with
  | non => exact .inr ⟨rfl, _, .base .non, kitLT0 (by decide +kernel) (by decide +kernel)⟩
  | bl b => exact .inr ⟨rfl, _, .base (.bl b), kitLT0 (by decide +kernel) (by decide +kernel)⟩
  | int i => exact .inr ⟨rfl, _, .base (.int i), kitLT0 (by decide +kernel) (by decide +kernel)⟩
  | str x => exact .inr ⟨rfl, _, .base (.str x), kitLT0 (by decide +kernel) (by decide +kernel)⟩
  | lst h a => exact .inl ⟨_, _, _, rfl, rfl, .inl h, a⟩
  | tup h a => exact .inl ⟨_, _, _, rfl, rfl, .inr h, a⟩
  | dic h a => exact .inr ⟨rfl, _, .base (.dK h), kitLT0 (by decide +kernel) (by decide +kernel)⟩
theorem clkOf_len {ds : List PyData} (h : ds.length ≠ 2) : clkOf ds = none := by
  unfold clkOf
  split
  · exact absurd rfl h
  · rfl
def spClkD : Sp := fun vs H Q _ => ∃ (v : V) (d : PyData), vs = [v] ∧ Pv H v d ∧ Q (.bl (clkD d).isSome) H
def spPerD : Sp := fun vs H Q _ => ∃ (v : V) (d : PyData) (l : Addr) (s r : Int), vs = [v, .ref l] ∧ Pv H v d ∧ H l = some (.lst [.int s, .int r]) ∧ 0 < s ∧ 0 < r ∧ ∀ H', Same H H' → Q (.bl (isIntD d && perOk (intD d) s r)) H'
def spWRowD : Sp := fun vs H Q _ => ∃ (p e : Addr) (g r n : Int) (xs : List V) (ds : List PyData), vs = [.ref p, .ref e, .int n] ∧ Row2 H p xs ∧ PvAll H xs ds ∧ H e = some (.tup [.int g, .int r]) ∧ 0 < r ∧ 0 < xs.length ∧ xs.length ≤ 4000 ∧ ∀ v H', Same H H' → RetP H' (rowBad g r n ds) v → Q v H'
def spWLeadD : Sp := fun vs H Q _ => ∃ (b e p row : V) (db de dp dr : PyData), vs = [b, e, p, row] ∧ Pv H b db ∧ Pv H e de ∧ Pv H p dp ∧ Pv H row dr ∧ (∀ ds, seqD dr = some ds → ds.length ≤ 4000) ∧ ∀ v H', Same H H' → RetP H' (badD db de dp dr) v → Q v H'
section
variable {P : Program} {w : World} {K : PySem.W.Frag} {mg : Str → Option Value} {base : Heap} {f C : Addr} {fd : FuncData}

theorem ok_clkD (F : Fun K "is_clock" "is_clock" sIsClk f fd) (T : Wds mg) (isInt : Cf P w K mg base 1 "is_integer" spIsInt) : FnOk P w K mg base CX0 2 f fd ["value"] spClkD := by
  refine F.ok scIsClk (fun vs H Q E h => ?_) (fun cdv A outer s H vs Q E hr h => ?_)
  · obtain ⟨v, d, rfl, _⟩ := h
    rfl
  · obtain ⟨v, d, rfl, hv, k⟩ := h
    obtain ⟨tk, hGS⟩ := T.gs
    refine ⟨_, (pss_cons (ps_if (PW.pt (pw_or (pt_not (pt_val (pe_callB call_isi (by rfl) T.zisinstance (by decide +kernel) (pa_cons (pv 0) (pa_cons (pe_bltn (v := .ty "tuple") (by rfl) T.ztuple (by decide +kernel) rfl) pa_nil))))) (pw_or1 (pt_cmpR op_ne (pe_callB call_len_seq (by rfl) T.zlen (by decide +kernel) (pa_cons (pv 0) pa_nil)) pe_int (nomark _))))) (pss_one (ps_ret pe_bl)) pss_nil)
      (pss_cons (ps_asg (pv 0) (pg_tup (by rfl) (pgs_cons (pg_name (i := 1) scIsClk.nd rfl (.inl rfl)) (pgs_cons (pg_name (i := 2) scIsClk.nd rfl (.inl rfl)) pgs_nil))))
      (pss_one (ps_ret (pe_and (pe_f isInt hr (by decide) (by rfl) (pa_cons (pv 1) pa_nil)) (pe_and (pe_f isInt hr (by decide) (by rfl) (pa_cons (pv 2) pa_nil)) (pe_one (pe_chain op_le op_le pe_int (pv 2) (pe_glob (v := .int 60) (by rfl) hGS ⟨_, rfl⟩))))))))), ?_⟩
    rcases hv.tyTup (K := K) with ⟨t, xs, ds, rfl, rfl, ht, all⟩ | ⟨no, T, ty, kt⟩
    · refine ⟨_, rfl, .ref t, .ty "tuple", _, .type "tuple", true, rfl, .ty _, .base (.tup ht), kit_ty (by decide +kernel), true, rfl, iteF ?_⟩
      refine ⟨_, rfl, t, _, rfl, .inr (SqT.of ht), rfl, ?_⟩
      rw [dec_V]
      by_cases l2 : xs.length = 2
      · rw [decide_eq_true (show (xs.length : Int) = 2 by omega)]
        refine ⟨_, rfl, iteF ?_⟩
        obtain ⟨x, y, rfl⟩ : ∃ x y, xs = [x, y] := by
          match xs, l2 with
          | [x, y], _ => exact ⟨x, y, rfl⟩
        obtain ⟨dx, dy, rfl⟩ : ∃ x y, ds = [x, y] := by
          have e := all.len
          match ds, e with
          | [x, y], _ => exact ⟨x, y, rfl⟩
        obtain ⟨px, py⟩ : Pv H x dx ∧ Pv H y dy := by
          cases all with
          | cons a r => cases r with
            | cons b r => exact ⟨a, b⟩
        refine ⟨_, rfl, t, _, rfl, SqT.of ht, rfl, _, _, rfl, _, _, rfl, rfl, ?_⟩
        refine ⟨_, rfl, x, rfl, px.od, isI x, rfl, ?_⟩
        cases px with
        | int f =>
          refine iteT ?_
          refine ⟨_, rfl, y, rfl, py.od, isI y, rfl, ?_⟩
          cases py with
          | int s =>
            refine iteT ?_
            refine ⟨_, rfl, _, _, rfl, rfl, _, rfl, ?_⟩
            have k : Q (.bl (clkOf [.int f, .int s]).isSome) H := k
            unfold clkOf at k
            by_cases s0 : (1 : Int) ≤ s
            · rw [decide_eq_true s0]
              refine iteT ⟨_, _, rfl, rfl, ?_⟩
              show Q (.bl (decide (s ≤ 60))) H
              by_cases s1 : s ≤ 60
              · rw [decide_eq_true s1]
                simp only [if_pos (show 1 ≤ s ∧ s ≤ 60 from ⟨s0, s1⟩)] at k
                exact k
              · rw [decide_eq_false s1]
                simp only [if_neg (show ¬ (1 ≤ s ∧ s ≤ 60) from fun z => s1 z.2)] at k
                exact k
            · rw [decide_eq_false s0]
              simp only [if_neg (show ¬ (1 ≤ s ∧ s ≤ 60) from fun z => s0 z.1)] at k
              exact iteF k
          | _ => exact iteF k
        | _ => exact iteF k
      · rw [decide_eq_false (show ¬ (xs.length : Int) = 2 by omega)]
        refine ⟨_, rfl, iteT ?_⟩
        have k : Q (.bl (clkOf ds).isSome) H := k
        rw [clkOf_len (by rw [← all.len]; exact l2)] at k
        exact k
    · refine ⟨_, rfl, v, .ty "tuple", _, .type "tuple", false, rfl, .ty _, ty, kit_ty kt, false, rfl, iteT ?_⟩
      rw [no] at k
      exact k
theorem ok_perD (F : Fun K "is_period" "is_period" sIsPer f fd) (T : Wds mg) (isInt : Cf P w K mg base 1 "is_integer" spIsInt) : FnOk P w K mg base CX0 2 f fd ["value", "steps"] spPerD := by
  refine F.ok scIsPer (fun vs H Q E h => ?_) (fun cdv A outer s H vs Q E hr h => ?_)
  · obtain ⟨v, d, l, s, r, rfl, _⟩ := h
    rfl
  · obtain ⟨v, d, l, s, r, rfl, hv, hl, s0, r0, k⟩ := h
    refine ⟨_, (pss_one (ps_ret (pe_and (pe_f isInt hr (by decide) (by rfl) (pa_cons (pv 0) pa_nil)) (pe_and (pe_cmpR op_ge (pv 0) pe_int (nomark _)) (pe_one (pe_callB (cr_all (by rfl)) (by rfl) T.zall (by decide +kernel) (pa_cons (pe_lc (own := [("step", 2)]) (by rfl) scIsPer.nd (pi_list (pv 1)) (blkOk_by (N := ["value", "steps", "step"]) (sc := defScope sIsPer) (by decide +kernel)) (fun _ _ _ _ _ => (pg_name (i := 2) scIsPer.nd rfl (.inl rfl))) (fun _ _ _ _ _ => pts_nil) (fun _ _ _ _ _ => (pe_cmpR op_eq (pe_op op_mod (pv 0) (pv 2)) pe_int (nomark _)))) pa_nil))))))), ?_⟩
    refine ⟨_, rfl, v, rfl, hv.od, isI v, rfl, ?_⟩
    cases hv with
    | int n =>
      refine iteT ?_
      refine ⟨_, rfl, _, _, rfl, rfl, _, rfl, ?_⟩
      have k : ∀ H', Same H H' → Q (.bl (perOk n s r)) H' := k
      by_cases n1 : 1 ≤ n
      · rw [decide_eq_true (show n ≥ (1 : Int) from n1)]
        refine iteT ?_
        refine ⟨_, rfl, l, rfl, ⟨_, SqL.of hl⟩, fun D nD => ?_⟩
        have hl' : H l = some (.lst (([s, r] : List Int).map V.int)) := hl
        refine lc_it walk_list (fun i H1 => Same H H1 ∧ H1 D = some (.lst (((([s, r] : List Int).take i).map fun z => decide (n % z = 0)).map V.bl))) ⟨same_new nD, upd_same⟩ (fun i H1 _ z => SqL.of (z.1 _ _ hl)) ?_ ?_
        · rintro i y H1 H2 hi ⟨s1, hD⟩ ⟨rfl, hy⟩
          obtain ⟨z, hz, rfl⟩ := int_at (ns := [s, r]) hy
          have z0 : 0 < z := by
            have m := List.mem_of_getElem? hz
            rcases List.mem_cons.mp m with rfl | m
            · exact s0
            · cases List.mem_singleton.mp m
              exact r0
          refine ⟨rfl, _, rfl, _, rfl, _, _, rfl, rfl, z0, rfl, ?_⟩
          rw [dec_V]
          refine ⟨_, hD, small1000 (by rw [List.length_map, List.length_map, List.length_take]; exact Nat.le_trans (Nat.min_le_right _ _) (by show 2 ≤ 1000; decide)), fun b o q => by rw [upd_ne (ne_of_none q nD)]; exact s1 b o q, ?_⟩
          rw [upd_same, List.take_succ, hz, List.map_append, List.map_append]
          rfl
        · rintro H1 ⟨s1, hD⟩
          refine ⟨D, _, rfl, SqL.of hD, ?_⟩
          have e : (((([s, r] : List Int).take (List.map V.int [s, r]).length).map fun z => decide (n % z = 0))).all id = (decide (n % s = 0) && decide (n % r = 0)) := by
            show ([decide (n % s = 0), decide (n % r = 0)]).all id = _
            simp
          have q := k H1 s1
          unfold perOk at q
          rw [decide_eq_true n1, Bool.true_and, ← e] at q
          exact q
      · rw [decide_eq_false (show ¬ n ≥ (1 : Int) from n1)]
        refine iteF ?_
        have q := k H fun _ _ z => z
        unfold perOk at q
        rw [decide_eq_false n1, Bool.false_and] at q
        exact q
    | _ => exact iteF (k H fun _ _ z => z)
end
end L15
namespace L15
open PySem PySem.Spec L2 Rt Rs Ld
open PyProof.Rows hiding St

theorem enumR_of {K : PySem.W.Frag} {R : It → Hp → Prop} {p : Addr} {H : Hp} {xs : List V} (h : Row2 H p xs) (f : ∀ (J : It) (G : Hp → Prop), Walk J xs.length G (YPair (fun i => some (.int (i : Nat))) (fun i => xs[i]?)) → (∀ H', Same H H' → G H') → R J H) : enumR K R p H := by
  rcases h with h | h
  · exact .inl ⟨⟨xs, SqL.of h⟩, f _ _ walk_enum fun H' s => SqL.of (s _ _ h)⟩
  · exact .inr ⟨⟨xs, SqT.of h⟩, f _ _ walk_enumT fun H' s => SqT.of (s _ _ h)⟩
theorem getD_at {ds : List PyData} {i : Nat} {d : PyData} (h : ds[i]? = some d) : ds.getD i .none = d := by rw [List.getD_eq_getElem?_getD, h]; rfl
/-- the members of a row that are all on a clock -/
theorem on_at_all {H : Hp} {xs : List V} {ds : List PyData} {g r : Int} (all : PvAll H xs ds) (on : ∀ j, j < xs.length → onD g r (ds.getD j .none) = true) {i : Nat} (hi : i < xs.length) : xs[i]? = some (.int (intD (ds.getD i .none))) := by
  obtain ⟨d, hd, hv⟩ := all.at_ (List.getElem?_eq_getElem hi)
  have q := on i hi
  rw [getD_at hd] at q ⊢
  rw [List.getElem?_eq_getElem hi]
  generalize xs[i] = x at hv
  cases hv with
  | int z => rfl
  | _ => cases q
theorem atLast {α : Type} {xs : List α} {x : α} (pos : 0 < xs.length) (h : xs[xs.length - 1]? = some x) : atI xs (-1) = some x := by
  unfold atI ixN
  rw [if_neg (by omega), if_pos (by omega)]
  show xs[((-1 : Int) + (xs.length : Int)).toNat]? = _
  rw [show ((-1 : Int) + (xs.length : Int)).toNat = xs.length - 1 by omega]
  exact h
theorem eq_div {a s n : Int} (s0 : 0 < s) (d : n % s = 0) : (a = n / s) ↔ (a * s = n) := by
  obtain ⟨q, rfl⟩ := Int.dvd_of_emod_eq_zero d
  rw [Int.mul_ediv_cancel_left q (by omega), Int.mul_comm s q]
  constructor
  · intro h
    rw [h]
  · intro h
    exact Int.eq_of_mul_eq_mul_right (by omega) h
def spInitD (C CB : Addr) : Sp := fun vs H Q E => ∃ (a dx : Addr) (b e p row : V) (db de dp dr : PyData), vs = [.ref a, b, e, p, row] ∧ H a = some (.ins C dx []) ∧ Pv H b db ∧ Pv H e de ∧ Pv H p dp ∧ Pv H row dr ∧ (∀ ds, seqD dr = some ds → ds.length ≤ 4000) ∧
  (badD db de dp dr = none → ∀ (f s g r n : Int) (ks : List Int), db = .tuple [.int f, .int s] → de = .tuple [.int g, .int r] → dp = .int n → seqD dr = some (ks.map PyData.int) → Rok f s g r n ks → ∀ H', Sbut a H H' → LdAt H' C a ⟨f, s, g, r, n⟩ (valL s n ks) → Q .non H') ∧
  ∀ ks, badD db de dp dr = some ks → ∀ (d q : Addr) (H' : Hp), Same H H' → H' d = some (.xd [("path", .ref q)]) → H' q = some (.tup (ks.map V.int)) → E (.ref CB) (some d) H'
abbrev sBadLead : Stmt := inClass (top 3) 0
section
variable {P : Program} {w : World} {K : PySem.W.Frag} {mg : Str → Option Value} {base : Heap} {f C : Addr} {fd : FuncData}

theorem ok_wRowD (F : Fun K "wrong_in_row" "wrong_in_row" sWRow f fd) (T : Wds mg) (isOn : Cf P w K mg base 2 "is_on" spOn) : FnOk P w K mg base CX0 3 f fd ["row", "end", "period"] spWRowD := by
  refine F.ok scWRow (fun vs H Q E h => ?_) (fun cdv A outer s H vs Q E hr h => ?_)
  · obtain ⟨p, e, g, r, n, xs, ds, rfl, _⟩ := h
    rfl
  · obtain ⟨p, e, g, r, n, xs, ds, rfl, hp, all, he, r0, pos, few, k⟩ := h
    refine ⟨_, (pss_cons (ps_for PassesOwn.never rfl (pi_enumS (by rfl) T.zenumerate (pa_cons (pv 0) pa_nil)) (pg_tup (by rfl) (pgs_cons (pg_name (i := 3) scWRow.nd rfl (.inl rfl)) (pgs_cons (pg_name (i := 4) scWRow.nd rfl (.inl rfl)) pgs_nil)))
        (pss_one (ps_if (pt_not (pt_val (pe_f isOn hr (by decide) (by rfl) (pa_cons (pv 1) (pa_cons (pv 4) pa_nil))))) (pss_one (ps_ret (pe_tup (pa_cons pe_int (pa_cons (pv 3) pa_nil))))) pss_nil)))
      (pss_cons (ps_for PassesOwn.never rfl (pi_range2 (by rfl) T.zrange (pa_cons pe_int (pa_cons (pe_callB call_len_seq (by rfl) T.zlen (by decide +kernel) (pa_cons (pv 0) pa_nil)) pa_nil))) (pg_name (i := 3) scWRow.nd rfl (.inl rfl))
        (pss_one (ps_if (pt_cmpR op_lt (pe_ix ix_seq (pv 0) (pv 3) (fun _ _ => rfl)) (pe_ix ix_seq (pv 0) (pe_op op_sub (pv 3) pe_int) (fun _ _ => rfl)) (nomark _)) (pss_one (ps_ret (pe_tup (pa_cons pe_int (pa_cons (pv 3) pa_nil))))) pss_nil)))
      (pss_cons (ps_if (pt_cmpR op_gt (pe_ix ix_seq (pv 0) (pe_un un_neg pe_int) (fun _ _ => rfl)) (pe_op op_add (pe_ix ix_seq (pv 0) pe_int (fun _ _ => rfl)) (pv 2)) (nomark _)) (pss_one (ps_ret (pe_tup (pa_cons pe_int (pa_cons pe_int pa_nil))))) pss_nil)
      (pss_one (ps_ret pe_non))))), ?_⟩
    have len := all.len
    -- each is one of the end's clock
    refine ⟨_, rfl, p, rfl, enumR_of hp fun J G wk hG => ?_⟩
    refine for_it wk (fun i σ H2 => ∃ (v3 v4 : Option V), σ = [some (.ref p), some (.ref e), some (.int n), v3, v4] ∧ Same H H2 ∧ ∀ j, j < i → onD g r (ds.getD j .none) = true) ⟨_, _, rfl, Same.refl _, fun j hj => absurd hj (Nat.not_lt_zero j)⟩ (fun i σ H2 _ ⟨_, _, _, s, _⟩ => hG _ s) ?_ ?_
    · rintro i y σ H2 H3 hi ⟨v3, v4, rfl, s2, on⟩ ⟨t, x1, x2, rfl, ht, rfl, h1, h2⟩
      obtain rfl : V.int (i : Nat) = x1 := Option.some.inj h1
      have s3 := s2.trans (same_new (o := .tup [.int (i : Nat), x2]) ht)
      refine ⟨t, _, rfl, SqT.of upd_same, rfl, _, _, rfl, _, _, rfl, rfl, ?_⟩
      obtain ⟨d, hd, hv⟩ := all.at_ h2
      have od := (hv.same s3).od
      refine ⟨_, rfl, _, rfl, e, g, r, _, rfl, s3 _ _ he, r0, od, onB g r x2, rfl, ?_⟩
      have ed := hv.onB g r
      cases ob : onB g r x2 with
      | true =>
        refine iteF ⟨_, _, rfl, s3, fun j hj => ?_⟩
        rcases Nat.lt_or_ge j i with lt | ge
        · exact on j lt
        · cases (show j = i by omega)
          rw [getD_at hd, ← ed, ob]
      | false =>
        refine iteT ?_
        refine ⟨_, rfl, (by show 2 ≤ sizeLine; decide), fun q nq => ?_⟩
        refine k _ _ (s3.trans (same_new nq)) ?_
        have e1 : firstNot (fun k => onD g r (ds.getD k .none)) 0 ds.length = some i := firstNot_some (Nat.zero_le _) (by omega) (fun j _ hj => on j hj) (by show onD g r (ds.getD i .none) = false; rw [getD_at hd, ← ed, ob])
        unfold rowBad
        rw [e1]
        exact ⟨q, rfl, upd_same⟩
    · rintro σ H2 ⟨v3, v4, rfl, s2, on⟩
      -- none is less than the one ahead of it
      have at_ : ∀ i, i < xs.length → xs[i]? = some (.int (intD (ds.getD i .none))) := fun i hi => on_at_all all on hi
      have e1 : firstNot (fun k => onD g r (ds.getD k .none)) 0 ds.length = none := firstNot_none fun j _ hj => on j (by omega)
      have hp2 := hp.same s2
      refine ⟨_, rfl, p, _, rfl, hp2.seq, 1, (xs.length : Int), rfl, ⟨by omega, by omega, by omega, by omega⟩, ?_⟩
      refine for_range (lo := 1) (fun i σ H3 => ∃ (v3 v4 : Option V), σ = [some (.ref p), some (.ref e), some (.int n), v3, v4] ∧ H3 = H2 ∧ ∀ j, 1 ≤ j → j < i + 1 → intD (ds.getD (j - 1) .none) ≤ intD (ds.getD j .none)) ⟨_, _, rfl, rfl, fun j a b => by omega⟩ ?_ ?_
      · rintro i σ H3 hi ⟨v3, v4, rfl, rfl, mono⟩
        have hi1 : i + 1 < xs.length := by omega
        refine ⟨_, rfl, _, rfl, rIx_of hp2 (at_of (j := i + 1) (by omega) (at_ _ hi1)) ?_⟩
        refine ⟨_, rfl, _, rfl, _, _, rfl, rfl, rIx_of hp2 (at_of (j := i) (by omega) (at_ _ (by omega))) ?_⟩
        refine ⟨_, _, rfl, rfl, _, rfl, ?_⟩
        by_cases lt : intD (ds.getD (i + 1) .none) < intD (ds.getD i .none)
        · rw [decide_eq_true lt]
          refine iteT ?_
          refine ⟨_, rfl, (by show 2 ≤ sizeLine; decide), fun q nq => ?_⟩
          refine k _ _ (s2.trans (same_new nq)) ?_
          have e2 : firstNot (fun k => decide (intD (ds.getD (k - 1) .none) ≤ intD (ds.getD k .none))) 1 (ds.length - 1) = some (i + 1) := firstNot_some (by omega) (by omega) (fun j a b => decide_eq_true (mono j a b)) (by
            rw [Nat.add_sub_cancel]
            exact decide_eq_false (by omega))
          unfold rowBad
          rw [e1]
          simp only []
          rw [e2]
          refine ⟨q, rfl, ?_⟩
          rw [upd_same]
          show some (HO.tup [.int 4, .int (1 + (i : Int))]) = some (HO.tup [.int 4, .int ((i + 1 : Nat) : Int)])
          rw [show (1 + (i : Int)) = ((i + 1 : Nat) : Int) by omega]
        · rw [decide_eq_false lt]
          refine iteF ⟨_, _, rfl, rfl, fun j a b => ?_⟩
          rcases Nat.lt_or_ge j (i + 1) with l | g
          · exact mono j a l
          · cases (show j = i + 1 by omega)
            rw [Nat.add_sub_cancel]
            omega
      · rintro σ H3 ⟨v3, v4, rfl, rfl, mono⟩
        -- the last is no more than the first and the period
        have e2 : firstNot (fun k => decide (intD (ds.getD (k - 1) .none) ≤ intD (ds.getD k .none))) 1 (ds.length - 1) = none := firstNot_none fun j a b => decide_eq_true (mono j a (by omega))
        refine ⟨_, rfl, 1, rfl, rIx_of hp2 (atLast pos (at_ _ (by omega))) ?_⟩
        refine ⟨_, rfl, rIx_of hp2 (at_of (j := 0) rfl (at_ 0 pos)) ?_⟩
        refine ⟨_, rfl, _, _, rfl, rfl, _, _, rfl, rfl, _, rfl, ?_⟩
        have kk : rowBad g r n ds = if intD (ds.getD 0 .none) + n < intD (ds.getD (ds.length - 1) .none) then some [4, 0] else none := by
          unfold rowBad
          rw [e1]
          simp only []
          rw [e2]
        rw [len]
        by_cases gt : intD (ds.getD (ds.length - 1) .none) > intD (ds.getD 0 .none) + n
        · rw [decide_eq_true gt]
          refine iteT ⟨(by show 2 ≤ sizeLine; decide), fun q nq => ?_⟩
          refine k _ _ (s2.trans (same_new nq)) ?_
          rw [kk, if_pos (by omega)]
          exact ⟨q, rfl, upd_same⟩
        · rw [decide_eq_false gt]
          refine iteF (k _ _ s2 ?_)
          rw [kk, if_neg (by omega)]
          rfl
theorem ok_wLeadD (F : Fun K "wrong_in_lead" "wrong_in_lead" sWLead f fd) (T : Wds mg) (isClk : Cf P w K mg base 2 "is_clock" spClkD) (isPer : Cf P w K mg base 2 "is_period" spPerD) (wRow : Cf P w K mg base 3 "wrong_in_row" spWRowD) : FnOk P w K mg base CX0 4 f fd ["start", "end", "period", "row"] spWLeadD := by
  refine F.ok scWLead (fun vs H Q E h => ?_) (fun cdv A outer s H vs Q E hr h => ?_)
  · obtain ⟨b, e, p, row, db, de, dp, dr, rfl, _⟩ := h
    rfl
  · obtain ⟨b, e, p, row, db, de, dp, dr, rfl, hb, he, hp, hrow, few, k⟩ := h
    refine ⟨_, (pss_cons (ps_if (pt_not (pt_val (pe_f isClk hr (by decide) (by rfl) (pa_cons (pv 0) pa_nil)))) (pss_one (ps_ret (pe_tup (pa_cons pe_int pa_nil)))) pss_nil)
      (pss_cons (ps_if (pt_not (pt_val (pe_f isClk hr (by decide) (by rfl) (pa_cons (pv 1) pa_nil)))) (pss_one (ps_ret (pe_tup (pa_cons pe_int pa_nil)))) pss_nil)
      (pss_cons (ps_if (pt_not (pt_val (pe_f isPer hr (by decide) (by rfl) (pa_cons (pv 2) (pa_cons (pe_lst (pa_cons (pe_ix ix_tup (pv 0) pe_int (fun _ _ => rfl)) (pa_cons (pe_ix ix_tup (pv 1) pe_int (fun _ _ => rfl)) pa_nil))) pa_nil))))) (pss_one (ps_ret (pe_tup (pa_cons pe_int pa_nil)))) pss_nil)
      (pss_cons (ps_if (PW.pt (pw_or (pt_not (pt_val (pe_callB call_isiT (by rfl) T.zisinstance (by decide +kernel) (pa_cons (pv 3) (pa_cons (pe_tup (pa_cons (pe_bltn (v := .ty "list") (by rfl) T.zlist (by decide +kernel) rfl) (pa_cons (pe_bltn (v := .ty "tuple") (by rfl) T.ztuple (by decide +kernel) rfl) pa_nil))) pa_nil))))) (pw_or1 (pt_cmpR op_ne (pe_callB call_len_seq (by rfl) T.zlen (by decide +kernel) (pa_cons (pv 3) pa_nil)) (pe_op op_fdiv (pv 2) (pe_ix ix_tup (pv 0) pe_int (fun _ _ => rfl))) (nomark _))))) (pss_one (ps_ret (pe_tup (pa_cons pe_int pa_nil)))) pss_nil)
      (pss_one (ps_ret (pe_f wRow hr (by decide) (by rfl) (pa_cons (pv 3) (pa_cons (pv 1) (pa_cons (pv 2) pa_nil)))))))))), ?_⟩
    unfold badD at k
    refine ⟨_, rfl, b, db, rfl, hb, _, rfl, ?_⟩
    cases cb : clkD db with
    | none =>
      refine iteT ⟨(by show 1 ≤ sizeLine; decide), fun q nq => ?_⟩
      rw [cb] at k
      exact k _ _ (same_new nq) ⟨q, rfl, upd_same⟩
    | some y =>
    obtain ⟨f, s⟩ := y
    rw [cb] at k
    dsimp only at k
    refine iteF ?_
    refine ⟨_, rfl, e, de, rfl, he, _, rfl, ?_⟩
    cases ce : clkD de with
    | none =>
      refine iteT ⟨(by show 1 ≤ sizeLine; decide), fun q nq => ?_⟩
      rw [ce] at k
      exact k _ _ (same_new nq) ⟨q, rfl, upd_same⟩
    | some z =>
    obtain ⟨g, r⟩ := z
    rw [ce] at k
    dsimp only at k
    refine iteF ?_
    obtain ⟨rfl, s0, s1⟩ := clkD_some cb
    obtain ⟨rfl, r0, r1⟩ := clkD_some ce
    obtain ⟨ba, rfl, hba⟩ : ∃ ba, b = .ref ba ∧ H ba = some (.tup [.int f, .int s]) := by
      cases hb with
      | tup h a => exact ⟨_, rfl, by rw [h, PvAll.ints (ks := [f, s]) a]; rfl⟩
    obtain ⟨ea, rfl, hea⟩ : ∃ ba, e = .ref ba ∧ H ba = some (.tup [.int g, .int r]) := by
      cases he with
      | tup h a => exact ⟨_, rfl, by rw [h, PvAll.ints (ks := [g, r]) a]; rfl⟩
    refine ⟨_, rfl, _, rfl, ba, _, _, _, rfl, rfl, SqT.of hba, at1, _, rfl, ea, _, _, _, rfl, rfl, SqT.of hea, at1, (by show 2 ≤ sizeLine; decide), fun l nl => ?_⟩
    have s2 := same_new (o := .lst [.int s, .int r]) nl
    refine ⟨p, dp, l, s, r, rfl, hp.same s2, upd_same, by omega, by omega, fun H1 s3 => ?_⟩
    have s3 := s2.trans s3
    refine ⟨_, rfl, ?_⟩
    cases per : isIntD dp && perOk (intD dp) s r with
    | false =>
      refine iteT ⟨(by show 1 ≤ sizeLine; decide), fun q nq => ?_⟩
      rw [per] at k
      exact k _ _ (s3.trans (same_new nq)) ⟨q, rfl, upd_same⟩
    | true =>
    rw [per] at k
    refine iteF ?_
    rw [Bool.and_eq_true] at per
    obtain ⟨ip, per⟩ := per
    obtain ⟨n, rfl, rfl⟩ : ∃ n, p = .int n ∧ dp = .int n := by
      cases hp with
      | int n => exact ⟨n, rfl, rfl⟩
      | _ => cases ip
    have per : perOk n s r = true := per
    unfold perOk at per
    simp only [Bool.and_eq_true, decide_eq_true_eq] at per
    obtain ⟨n1, ns, nr⟩ := per
    refine ⟨_, rfl, (by show 2 ≤ sizeLine; decide), fun tp nt => ?_⟩
    have s4 := s3.trans (same_new (o := .tup [.ty "list", .ty "tuple"]) nt)
    have hrow4 := hrow.same s4
    rcases hrow4.tySeq (K := K) with ⟨ra, xs, ds, rfl, es, row2, all⟩ | ⟨no, T, ty, kt⟩
    · obtain ⟨T, ty, kt⟩ := row2.type (K := K)
      refine ⟨_, tp, _, .type T, _, true, rfl, upd_same, .cons (.ty _) (.cons (.ty _) .nil), ty, kt, true, rfl, iteF ?_⟩
      refine ⟨_, rfl, ra, _, rfl, row2.seq, _, rfl, _, rfl, ba, _, _, _, rfl, rfl, SqT.of (s4 _ _ hba), at1, _, _, rfl, rfl, ⟨by omega, by omega⟩, rfl, ?_⟩
      rw [dec_V]
      rw [es] at k
      simp only [if_true] at k
      have k : ∀ v H', Same H H' → RetP H' (if (ds.length : Int) * s = n then rowBad g r n ds else some [3]) v → Q v H' := k
      have len := all.len
      by_cases le : (xs.length : Int) = n / s
      · rw [decide_eq_true le]
        have le2 := (eq_div (by omega) ns).mp le
        rw [len] at le2
        simp only [if_pos le2] at k
        refine ⟨_, rfl, iteF ?_⟩
        have pos : 0 < xs.length := by
          rcases Nat.eq_zero_or_pos xs.length with z | z
          · rw [← len, z] at le2
            omega
          · exact z
        exact ⟨_, rfl, _, rfl, _, rfl, ra, ea, g, r, n, xs, ds, rfl, row2, all, s4 _ _ hea, by omega, pos, by rw [len]; exact few ds es, fun v H2 s5 rt => k v H2 (s4.trans s5) rt⟩
      · rw [decide_eq_false le]
        have le2 : ¬ (ds.length : Int) * s = n := fun z => le ((eq_div (by omega) ns).mpr (by rw [len]; exact z))
        simp only [if_neg le2] at k
        refine ⟨_, rfl, iteT ⟨(by show 1 ≤ sizeLine; decide), fun q nq => ?_⟩⟩
        exact k _ _ (s4.trans (same_new nq)) ⟨q, rfl, upd_same⟩
    · refine ⟨_, tp, _, .type T, _, false, rfl, upd_same, .cons (.ty _) (.cons (.ty _) .nil), ty, kt, false, rfl, iteT (iteT ⟨(by show 1 ≤ sizeLine; decide), fun q nq => ?_⟩)⟩
      rw [no] at k
      exact k _ _ (s4.trans (same_new nq)) ⟨q, rfl, upd_same⟩
end
end L15
namespace L15
open PySem PySem.Spec L2 Rt Rs Ld
open PyProof.Rows hiding St

/-- Lead(..) with parts in which nothing is wrong -/
def spInitN (C : Addr) : Sp := fun vs H Q _ => ∃ (a dx : Addr) (b e p row : V) (db de dp dr : PyData), vs = [.ref a, b, e, p, row] ∧ H a = some (.ins C dx []) ∧ Pv H b db ∧ Pv H e de ∧ Pv H p dp ∧ Pv H row dr ∧ (∀ ds, seqD dr = some ds → ds.length ≤ 4000) ∧
  badD db de dp dr = none ∧ ∀ (f s g r n : Int) (ks : List Int), db = .tuple [.int f, .int s] → de = .tuple [.int g, .int r] → dp = .int n → seqD dr = some (ks.map PyData.int) → Rok f s g r n ks → ∀ H', Sbut a H H' → LdAt H' C a ⟨f, s, g, r, n⟩ (valL s n ks) → Q .non H'
/-- the value of any thing -/
def spAtD (C CW : Addr) : Sp := fun vs H Q E => ∃ (a : Addr) (v : V) (L : LP) (F : Int → Int), vs = [.ref a, v] ∧ LdAt H C a L F ∧ LOk L F ∧ Od H v ∧ (∀ z, v = .int z → (z - L.f) % L.s = 0 → Q (.int (F z)) H) ∧ (onB L.f L.s v = false → E (.ref CW) none H)
/-- == with what is no lead -/
def spEqT (K : PySem.W.Frag) (C : Addr) : Sp := fun vs H Q _ => ∃ (a : Addr) (y : V) (T : String), vs = [.ref a, y] ∧ TyX K H y (.type T) ∧ PySem.W.kitOne K (.type T) (.ref C) = some false ∧ Q (.bl false) H
def spNeT (K : PySem.W.Frag) (C : Addr) : Sp := fun vs H Q _ => ∃ (a dx : Addr) (fs : List (Str × V)) (i : Int), vs = [.ref a, .int i] ∧ H a = some (.ins C dx fs) ∧ PySem.W.kitOne K (.type "int") (.ref C) = some false ∧ Q (.bl true) H
theorem rowBad_len {g r n : Int} {ds : List PyData} {ks : List Int} (h : rowBad g r n ds = some ks) : ks.length ≤ 2 := by
  unfold rowBad at h
  split at h
  · cases h
    exact Nat.le_refl _
  · split at h
    · cases h
      exact Nat.le_refl _
    · split at h
      · cases h
        exact Nat.le_refl _
      · cases h
theorem badD_len {b e p row : PyData} {ks : List Int} (h : badD b e p row = some ks) : ks.length ≤ 2 := by
  unfold badD at h
  split at h
  · cases h
    decide
  · split at h
    · cases h
      decide
    · split at h
      · split at h
        · cases h
          decide
        · split at h
          · exact rowBad_len h
          · cases h
            decide
      · cases h
        decide
section
variable {P : Program} {w : World} {K : PySem.W.Frag} {mg : Str → Option Value} {base : Heap} {f C : Addr} {fd : FuncData}

theorem scBadLead : FnScope ["self", "path"] ["self", "path"] (defScope sBadLead) := ⟨rfl, rfl, rfl, by decide +kernel, rfl, by decide +kernel, by decide +kernel⟩
theorem ok_iniBL {C : Addr} (F : Fun K "__init__" "BadLead.__init__" sBadLead f fd) (T : Wds mg) (M : ExM K C veT) (no : PySem.W.findIn K (.ref C) "path" = some none) : FnOk P w K mg base CX0 1 f fd ["self", "path"] (spIniT C "path") := by
  refine F.ok scBadLead (fun vs H Q E h => ?_) (fun cdv A outer s H vs Q E hr h => ?_)
  · obtain ⟨a, p, xs, rfl, _⟩ := h
    rfl
  · obtain ⟨a, p, xs, rfl, ha, hp, few, k⟩ := h
    refine ⟨_, pss_one (ps_xs PySem.F.store_ValueError (pv 0) (pe_callTy call_tuple_of (by rfl) T.ztuple (by decide +kernel) (pa_cons (pv 1) pa_nil))), ?_⟩
    rcases hp with hp | hp
    · refine ⟨_, rfl, p, xs, rfl, .inl ⟨SqL.of hp, fun l nl => ?_⟩⟩
      have al : a ≠ l := ne_of_none ha nl
      refine ⟨_, rfl, a, C, rfl, M, no, (by rw [upd_ne al]; exact ha), fun dx nd da => ?_⟩
      have ld : l ≠ dx := ne_of_none upd_same nd
      have nd0 : H dx = none := by
        rw [upd_ne ld.symm] at nd
        exact nd
      refine k dx l _ nd0 da upd_same (by rw [upd_ne da]; exact upd_same) (by rw [upd_ne al.symm, upd_ne ld]; exact upd_same) fun b o e nb => ?_
      have z : (upd H l (.tup xs)) b = some o := by
        rw [upd_ne (ne_of_none e nl)]
        exact e
      rw [upd_ne nb, upd_ne (ne_of_none z nd)]
      exact z
    · refine ⟨_, rfl, p, xs, rfl, .inr ⟨SqT.of hp, ?_⟩⟩
      refine ⟨_, rfl, a, C, rfl, M, no, ha, fun dx nd da => ?_⟩
      have pa : p ≠ a := ext_ne ha hp fun _ => nofun
      refine k dx p _ nd da upd_same (by rw [upd_ne da]; exact upd_same) (by rw [upd_ne pa, upd_ne (ne_of_none hp nd)]; exact hp) fun b o e nb => ?_
      rw [upd_ne nb, upd_ne (ne_of_none e nd)]
      exact e
theorem ok_initD {CB : Addr} (F : Fun K "__init__" "Lead.__init__" sInit f fd) (T : Wds mg) (cn : ClsL K C) (O : Own K mg "BadLead" "BadLead.__init__" "path" sBadLead veT "ValueError.__new__" CB) (wLead : Cf P w K mg base 4 "wrong_in_lead" spWLeadD) : FnOk P w K mg base (L2.CX P w) 5 f fd ["self", "start", "end", "period", "row"] (spInitD C CB) := by
  refine F.okX scInit (fun vs H Q E h => ?_) (fun cdv A outer s H vs Q E hr h => ?_)
  · obtain ⟨a, dx, b, e, p, row, db, de, dp, dr, rfl, _⟩ := h
    rfl
  · obtain ⟨a, dx, b, e, p, row, db, de, dp, dr, rfl, ha, hb, he, hp, hrow, few, kN, kB⟩ := h
    refine ⟨_, (pss_cons (ps_set (i := 5) scInit.nd rfl (.inl rfl) (pe_f wLead hr (by decide) (by rfl) (pa_cons (pv 1) (pa_cons (pv 2) (pa_cons (pv 3) (pa_cons (pv 4) pa_nil))))))
      (pss_cons (ps_if (pt_cmpR op_notN (pv 5) pe_non (nomark _)) (pss_one (ps_raO PySem.F.excBase_ValueError O rfl (takes_of rfl rfl rfl rfl) (fun f fd F => ok_iniBL F T O.M O.no) (fun f fd F => F.binds fun _ _ _ _ _ _ us hl => match us, hl with | [_, _], _ => rfl) hr (by decide) (by rfl) (pa_cons (pv 5) pa_nil) (fun _ _ _ => mak_T))) pss_nil)
      (pss_cons (ps_fld (pv 0) (pv 1) (by rfl))
      (pss_cons (ps_fld (pv 0) (pv 2) (by rfl))
      (pss_cons (ps_fld (pv 0) (pv 3) (by rfl))
      (pss_one (ps_fld (pv 0) (pe_callTy call_tuple_of (by rfl) T.ztuple (by decide +kernel) (pa_cons (pv 4) pa_nil)) (by rfl)))))))), ?_⟩
    refine ⟨_, rfl, _, rfl, _, rfl, _, rfl, b, e, p, row, db, de, dp, dr, rfl, hb, he, hp, hrow, few, fun v H1 s1 rt => ?_⟩
    cases bad : badD db de dp dr with
    | some ks =>
      rw [bad] at rt
      obtain ⟨t, rfl, ht⟩ := rt
      refine ⟨_, rfl, rfl, true, rfl, iteT ?_⟩
      refine ⟨_, rfl, t, ks.map V.int, rfl, .inr ht, ?_, fun d q H2 nd s2 hd hq => ?_⟩
      · have l2 : ks.length ≤ 2 := badD_len bad
        rw [List.length_map]
        exact Nat.le_trans l2 (by decide)
      exact kB ks bad d q H2 (s1.trans s2) hd hq
    | none =>
      rw [bad] at rt
      obtain rfl : v = .non := rt
      refine ⟨_, rfl, rfl, false, rfl, iteF ?_⟩
      obtain ⟨f, s, g, r, n, ds, ks, rfl, rfl, rfl, es, rfl, rok, s60, r60⟩ := badD_none bad
      obtain ⟨ba, rfl, hba⟩ : ∃ ba, b = .ref ba ∧ H ba = some (.tup [.int f, .int s]) := by
        cases hb with
        | tup h a => exact ⟨_, rfl, by rw [h, PvAll.ints (ks := [f, s]) a]; rfl⟩
      obtain ⟨ea, rfl, hea⟩ : ∃ ba, e = .ref ba ∧ H ba = some (.tup [.int g, .int r]) := by
        cases he with
        | tup h a => exact ⟨_, rfl, by rw [h, PvAll.ints (ks := [g, r]) a]; rfl⟩
      obtain rfl : p = .int n := by
        cases hp with
        | int n => rfl
      obtain ⟨ra, rfl, hra⟩ : ∃ ra, row = .ref ra ∧ Row2 H ra (ks.map V.int) := by
        rcases hrow.tySeq (K := K) with ⟨q, xs, ds, rfl, e1, r2, all⟩ | ⟨no, _⟩
        · cases e1.symm.trans es
          exact ⟨q, rfl, by rw [← PvAll.ints all]; exact r2⟩
        · cases no.symm.trans es
      have kN := kN bad f s g r n ks rfl rfl rfl es rok
      refine ⟨_, rfl, _, rfl, a, C, dx, [], rfl, s1 _ _ ha, cn.cls, cn.n1, (by decide : 0 < 1000), ?_⟩
      rw [show putF "_start" (V.ref ba) [] = [(("_start" : Str), V.ref ba)] from rfl]
      refine ⟨_, rfl, _, rfl, a, C, dx, _, rfl, upd_same, cn.cls, cn.n2, (by decide : 1 < 1000), ?_⟩
      rw [upd_upd, putL_2]
      refine ⟨_, rfl, _, rfl, a, C, dx, _, rfl, upd_same, cn.cls, cn.n3, (by decide : 2 < 1000), ?_⟩
      rw [upd_upd, putL_3]
      have b1 : Sbut a H (upd H1 a (.ins C dx [("_start", .ref ba), ("_end", .ref ea), ("_period", .int n)])) := (Sbut.of s1).trans Sbut.put
      have ha1 := upd_same (H := H1) (a := a) (o := .ins C dx [("_start", .ref ba), ("_end", .ref ea), ("_period", .int n)])
      have pba : ba ≠ a := ne_of hba ha (by intro z; cases z)
      have pea : ea ≠ a := ne_of hea ha (by intro z; cases z)
      have pra : ra ≠ a := by
        rcases hra with h | h
        · exact ne_of h ha (by intro z; cases z)
        · exact ne_of h ha (by intro z; cases z)
      revert b1 ha1
      generalize upd H1 a (.ins C dx [("_start", .ref ba), ("_end", .ref ea), ("_period", .int n)]) = H2
      intro b1 ha1
      have row : ks = rowOf ⟨f, s, g, r, n⟩ (valL s n ks) := rok.sem.2.symm
      rcases hra with hra | hra
      · refine ⟨_, rfl, ra, _, rfl, .inl ⟨SqL.of (b1 _ _ hra pra), fun t nt => ?_⟩⟩
        have s3 := same_new (o := .tup (ks.map V.int)) nt
        have ht := upd_same (H := H2) (a := t) (o := .tup (ks.map V.int))
        have ha3 := s3 _ _ ha1
        have ta : t ≠ a := ne_of ht ha3 (by intro z; cases z)
        refine ⟨_, rfl, a, C, dx, _, rfl, ha3, cn.cls, cn.n4, (by decide : 3 < 1000), ?_⟩
        rw [putL_4]
        have b4 : Sbut a H (upd (upd H2 t (.tup (ks.map V.int))) a (.ins C dx [("_start", .ref ba), ("_end", .ref ea), ("_period", .int n), ("_row", .ref t)])) := (b1.trans (Sbut.of s3)).trans Sbut.put
        refine kN _ b4 ⟨dx, ba, ea, t, upd_same, b4 _ _ hba pba, b4 _ _ hea pea, ?_⟩
        rw [upd_ne ta, ← row]
        exact ht
      · refine ⟨_, rfl, ra, _, rfl, .inr ⟨SqT.of (b1 _ _ hra pra), ?_⟩⟩
        refine ⟨_, rfl, a, C, dx, _, rfl, ha1, cn.cls, cn.n4, (by decide : 3 < 1000), ?_⟩
        rw [putL_4]
        have b4 : Sbut a H (upd H2 a (.ins C dx [("_start", .ref ba), ("_end", .ref ea), ("_period", .int n), ("_row", .ref ra)])) := b1.trans Sbut.put
        refine kN _ b4 ⟨dx, ba, ea, ra, upd_same, b4 _ _ hba pba, b4 _ _ hea pea, ?_⟩
        rw [← row]
        exact b4 _ _ hra pra
theorem ok_initN (F : Fun K "__init__" "Lead.__init__" sInit f fd) (T : Wds mg) (cn : ClsL K C) (wLead : Cf P w K mg base 4 "wrong_in_lead" spWLeadD) : FnOk P w K mg base CX0 5 f fd ["self", "start", "end", "period", "row"] (spInitN C) := by
  refine F.ok scInit (fun vs H Q E h => ?_) (fun cdv A outer s H vs Q E hr h => ?_)
  · obtain ⟨a, dx, b, e, p, row, db, de, dp, dr, rfl, _⟩ := h
    rfl
  · obtain ⟨a, dx, b, e, p, row, db, de, dp, dr, rfl, ha, hb, he, hp, hrow, few, bad, kN⟩ := h
    refine ⟨_, (pss_cons (ps_set (i := 5) scInit.nd rfl (.inl rfl) (pe_f wLead hr (by decide) (by rfl) (pa_cons (pv 1) (pa_cons (pv 2) (pa_cons (pv 3) (pa_cons (pv 4) pa_nil))))))
      (pss_cons (ps_if (pt_cmpR op_notN (pv 5) pe_non (nomark _)) (pss_one ps_never) pss_nil)
      (pss_cons (ps_fld (pv 0) (pv 1) (by rfl))
      (pss_cons (ps_fld (pv 0) (pv 2) (by rfl))
      (pss_cons (ps_fld (pv 0) (pv 3) (by rfl))
      (pss_one (ps_fld (pv 0) (pe_callTy call_tuple_of (by rfl) T.ztuple (by decide +kernel) (pa_cons (pv 4) pa_nil)) (by rfl)))))))), ?_⟩
    refine ⟨_, rfl, _, rfl, _, rfl, _, rfl, b, e, p, row, db, de, dp, dr, rfl, hb, he, hp, hrow, few, fun v H1 s1 rt => ?_⟩
    rw [bad] at rt
    obtain rfl : v = .non := rt
    refine ⟨_, rfl, rfl, false, rfl, iteF ?_⟩
    obtain ⟨f, s, g, r, n, ds, ks, rfl, rfl, rfl, es, rfl, rok, s60, r60⟩ := badD_none bad
    obtain ⟨ba, rfl, hba⟩ : ∃ ba, b = .ref ba ∧ H ba = some (.tup [.int f, .int s]) := by
      cases hb with
      | tup h a => exact ⟨_, rfl, by rw [h, PvAll.ints (ks := [f, s]) a]; rfl⟩
    obtain ⟨ea, rfl, hea⟩ : ∃ ba, e = .ref ba ∧ H ba = some (.tup [.int g, .int r]) := by
      cases he with
      | tup h a => exact ⟨_, rfl, by rw [h, PvAll.ints (ks := [g, r]) a]; rfl⟩
    obtain rfl : p = .int n := by
      cases hp with
      | int n => rfl
    obtain ⟨ra, rfl, hra⟩ : ∃ ra, row = .ref ra ∧ Row2 H ra (ks.map V.int) := by
      rcases hrow.tySeq (K := K) with ⟨q, xs, ds, rfl, e1, r2, all⟩ | ⟨no, _⟩
      · cases e1.symm.trans es
        exact ⟨q, rfl, by rw [← PvAll.ints all]; exact r2⟩
      · cases no.symm.trans es
    have kN := kN f s g r n ks rfl rfl rfl es rok
    refine ⟨_, rfl, _, rfl, a, C, dx, [], rfl, s1 _ _ ha, cn.cls, cn.n1, (by decide : 0 < 1000), ?_⟩
    rw [show putF "_start" (V.ref ba) [] = [(("_start" : Str), V.ref ba)] from rfl]
    refine ⟨_, rfl, _, rfl, a, C, dx, _, rfl, upd_same, cn.cls, cn.n2, (by decide : 1 < 1000), ?_⟩
    rw [upd_upd, putL_2]
    refine ⟨_, rfl, _, rfl, a, C, dx, _, rfl, upd_same, cn.cls, cn.n3, (by decide : 2 < 1000), ?_⟩
    rw [upd_upd, putL_3]
    have b1 : Sbut a H (upd H1 a (.ins C dx [("_start", .ref ba), ("_end", .ref ea), ("_period", .int n)])) := (Sbut.of s1).trans Sbut.put
    have ha1 := upd_same (H := H1) (a := a) (o := .ins C dx [("_start", .ref ba), ("_end", .ref ea), ("_period", .int n)])
    have pba : ba ≠ a := ne_of hba ha (by intro z; cases z)
    have pea : ea ≠ a := ne_of hea ha (by intro z; cases z)
    have pra : ra ≠ a := by
      rcases hra with h | h
      · exact ne_of h ha (by intro z; cases z)
      · exact ne_of h ha (by intro z; cases z)
    revert b1 ha1
    generalize upd H1 a (.ins C dx [("_start", .ref ba), ("_end", .ref ea), ("_period", .int n)]) = H2
    intro b1 ha1
    have row : ks = rowOf ⟨f, s, g, r, n⟩ (valL s n ks) := rok.sem.2.symm
    rcases hra with hra | hra
    · refine ⟨_, rfl, ra, _, rfl, .inl ⟨SqL.of (b1 _ _ hra pra), fun t nt => ?_⟩⟩
      have s3 := same_new (o := .tup (ks.map V.int)) nt
      have ht := upd_same (H := H2) (a := t) (o := .tup (ks.map V.int))
      have ha3 := s3 _ _ ha1
      have ta : t ≠ a := ne_of ht ha3 (by intro z; cases z)
      refine ⟨_, rfl, a, C, dx, _, rfl, ha3, cn.cls, cn.n4, (by decide : 3 < 1000), ?_⟩
      rw [putL_4]
      have b4 : Sbut a H (upd (upd H2 t (.tup (ks.map V.int))) a (.ins C dx [("_start", .ref ba), ("_end", .ref ea), ("_period", .int n), ("_row", .ref t)])) := (b1.trans (Sbut.of s3)).trans Sbut.put
      refine kN _ b4 ⟨dx, ba, ea, t, upd_same, b4 _ _ hba pba, b4 _ _ hea pea, ?_⟩
      rw [upd_ne ta, ← row]
      exact ht
    · refine ⟨_, rfl, ra, _, rfl, .inr ⟨SqT.of (b1 _ _ hra pra), ?_⟩⟩
      refine ⟨_, rfl, a, C, dx, _, rfl, ha1, cn.cls, cn.n4, (by decide : 3 < 1000), ?_⟩
      rw [putL_4]
      have b4 : Sbut a H (upd H2 a (.ins C dx [("_start", .ref ba), ("_end", .ref ea), ("_period", .int n), ("_row", .ref ra)])) := b1.trans Sbut.put
      refine kN _ b4 ⟨dx, ba, ea, ra, upd_same, b4 _ _ hba pba, b4 _ _ hea pea, ?_⟩
      rw [← row]
      exact b4 _ _ hra pra
theorem ok_matD {CW : Addr} (F : Fun K "at" "Lead.at" sMAt f fd) (T : Wds mg) (cn : ClsL K C) (OW : Easy K mg "NoWay" CW) (isOn : Cf P w K mg base 2 "is_on" spOn) : FnOk P w K mg base (L2.CX P w) 3 f fd ["self", "v"] (spAtD C CW) := by
  refine F.okX scMAt (fun vs H Q E h => ?_) (fun cdv A outer s H vs Q E hr h => ?_)
  · obtain ⟨a, v, L, F, rfl, _⟩ := h
    rfl
  · obtain ⟨a, v, L, F, rfl, ld, ok, od, kI, kE⟩ := h
    refine ⟨_, (pss_cons (ps_if (pt_not (pt_val (pe_f isOn hr (by decide) (by rfl) (pa_cons (pe_fld (pv 0) (by rfl)) (pa_cons (pv 1) pa_nil))))) (pss_one (ps_raE OW rfl (takes_of rfl rfl rfl rfl) (by rfl))) pss_nil)
      (pss_cons (ps_set (i := 2) scMAt.nd rfl (.inl rfl) (pe_op op_mod (pv 1) (pe_fld (pv 0) (by rfl))))
      (pss_one (ps_ret (pe_op op_sub (pe_op op_add (pe_ix ix_tup (pe_fld (pv 0) (by rfl)) (pe_op op_fdiv (pv 2) (pe_ix ix_tup (pe_fld (pv 0) (by rfl)) pe_int (fun _ _ => rfl))) (fun _ _ => rfl)) (pv 1)) (pv 2)))))), ?_⟩
    obtain ⟨dx, sa, ea, ra, h1, h2, h3, h4⟩ := ld.ex
    refine ⟨_, rfl, a, C, dx, _, _, rfl, h1, cn.cls, cn.n1, look_s, _, rfl, sa, L.f, L.s, _, rfl, h2, ok.sem.s0, od, onB L.f L.s v, rfl, ?_⟩
    cases ob : onB L.f L.s v with
    | false => exact iteT (kE ob)
    | true =>
      refine iteF ?_
      obtain ⟨z, rfl⟩ := onB_int ob
      have on : (z - L.f) % L.s = 0 := of_decide_eq_true ob
      have k := kI z rfl on
      have s0 := ok.sem.s0
      have n0 := ok.sem.n0
      have s1 := ok.s1
      have n1 := ok.n1
      refine ⟨_, rfl, _, rfl, a, C, dx, _, _, rfl, h1, cn.cls, cn.n3, look_n, _, _, rfl, rfl, n0, ?_⟩
      have m0 := Int.emod_nonneg z (show L.n ≠ 0 by omega)
      have m1 := Int.emod_lt_of_pos z n0
      have em := Int.emod_add_mul_ediv z L.n
      have ho := on_rest ok.sem.sd on
      obtain ⟨i, hi, ei⟩ := List.getElem_of_mem ((mem_nums s0 ok.sem.sd).mpr ⟨m0, m1, ho⟩)
      have hi' : i < (L.n / L.s).toNat := by rw [nums_len] at hi; exact hi
      have ev : z % L.n = L.f % L.s + (i : Int) * L.s := by
        have at_ := nums_at (f := L.f) hi'
        rw [List.getElem?_eq_getElem hi, ei] at at_
        exact Option.some.inj at_
      have r0 := Int.emod_nonneg L.f (show L.s ≠ 0 by omega)
      have r1 := Int.emod_lt_of_pos L.f s0
      have di : z % L.n / L.s = (i : Int) := by
        rw [ev, Int.add_mul_ediv_right _ _ (by omega), Int.ediv_eq_zero_of_lt r0 r1]
        omega
      refine ⟨_, rfl, a, C, dx, _, _, rfl, h1, cn.cls, cn.n4, look_w, _, rfl, _, rfl, a, C, dx, _, _, rfl, h1, cn.cls, cn.n1, look_s, sa, _, _, _, rfl, rfl, SqT.of h2, at1, _, _, rfl, rfl, ⟨s0, by omega⟩, ?_⟩
      refine ⟨ra, _, _, _, rfl, rfl, SqT.of h4, at_of (j := i) di (by rw [List.getElem?_map, row_at hi']; rfl), _, rfl, _, _, rfl, rfl, _, rfl, _, _, rfl, rfl, ?_⟩
      have p := ok.sem.perz ho (z / L.n)
      rw [show z % L.n + z / L.n * L.n = z by rw [Int.mul_comm (z / L.n)]; omega, ev] at p
      have e : F (L.f % L.s + (i : Int) * L.s) + z - z % L.n = F z := by
        rw [p, Int.mul_comm (z / L.n)]
        omega
      rw [← e] at k
      exact k
theorem ok_eqT (F : Fun K "__eq__" "Lead.__eq__" sEq f fd) (T : Wds mg) (cn : ClsL K C) (hC : mg "Lead" = some (.ref C)) (al : Cf P w K mg base 3 "are_alike_clocks" spAlike) : FnOk P w K mg base CX0 4 f fd ["self", "other"] (spEqT K C) := by
  refine F.ok scEq (fun vs H Q E h => ?_) (fun cdv A outer s H vs Q E hr h => ?_)
  · obtain ⟨a, y, U, rfl, _⟩ := h
    rfl
  · obtain ⟨a, y, U, rfl, ty, no, k⟩ := h
    have hu64 := hr.units
    refine ⟨_, (pss_cons (ps_if (pt_not (pt_val (pe_callB call_isi (by rfl) T.zisinstance (by decide +kernel) (pa_cons (pv 1) (pa_cons (pe_glob (v := .ref _) (by rfl) hC rfl) pa_nil))))) (pss_one (ps_ret pe_bl)) pss_nil)
      (pss_cons (ps_if (PW.pt (pw_or (pt_not (pt_val (pe_f al hr (by decide) (by rfl) (pa_cons (pe_fld (pv 0) (by rfl)) (pa_cons (pe_fld (pv 1) (by rfl)) pa_nil))))) (pw_or1 (pt_not (pt_val (pe_f al hr (by decide) (by rfl) (pa_cons (pe_fld (pv 0) (by rfl)) (pa_cons (pe_fld (pv 1) (by rfl)) pa_nil)))))))) (pss_one (ps_ret pe_bl)) pss_nil)
      (pss_one (ps_ret (pe_and (pe_cmpR op_eq (pe_fld (pv 0) (by rfl)) (pe_fld (pv 1) (by rfl)) (nomark _)) (pe_one (pe_cmpR (op_eqD hu64) (pe_fld (pv 0) (by rfl)) (pe_fld (pv 1) (by rfl)) (nomark _)))))))), ?_⟩
    exact ⟨_, rfl, y, .ref C, _, .ref C, false, rfl, .own C, ty, no, false, rfl, iteT k⟩
theorem ok_neT (F : Fun K "__ne__" "Lead.__ne__" sNe f fd) (mEqT : Md P w K mg base 4 C "__eq__" (spEqT K C)) : FnOk P w K mg base CX0 5 f fd ["self", "other"] (spNeT K C) := by
  refine F.ok scNe (fun vs H Q E h => ?_) (fun cdv A outer s H vs Q E hr h => ?_)
  · obtain ⟨a, dx, fs, i, rfl, _⟩ := h
    rfl
  · obtain ⟨a, dx, fs, i, rfl, ha, no, k⟩ := h
    refine ⟨_, (pss_one (ps_ret (pe_not (pe_cmpR (op_ownEqT (T := "int") mEqT hr (by decide) first_int) (pv 0) (pv 1) (nomark _))))), ?_⟩
    exact ⟨_, rfl, _, rfl, a, dx, _, rfl, ha, (show tyV K "int" (.int i) H from rfl), ⟨a, .int i, _, rfl, .base (.int i), no, _, rfl, _, rfl, k⟩⟩
end
end L15
namespace L15
open PySem PySem.Spec L2 Rt Rs Ld
open PyProof.Rows hiding St
open LamX

abbrev sOdd : Stmt := top 20
abbrev sLClk : Stmt := top 32
abbrev sWrong : Stmt := top 33
abbrev sTold : Stmt := top 34
/-- a drawn odd value -/
def Ov (M : Hp) (v : V) : Prop := ∃ d, Pv M v d ∧ Sm d ∧ ∀ ds, seqD d = some ds → ds.length ≤ 3
theorem Ov.same {M M' : Hp} {v : V} (h : Ov M v) (s : Same M M') : Ov M' v := by
  obtain ⟨d, a, b⟩ := h
  exact ⟨d, Pv.same s _ _ a, b⟩
def Ovs (M : Hp) (xs : List V) : Prop := ∀ v, v ∈ xs → Ov M v
theorem ovN {M : Hp} : Ovs M [] := fun _ h => nomatch h
theorem ovC {M : Hp} {v : V} {xs : List V} {d : PyData} (a : Pv M v d) (s : Sm d) (l : ∀ ds, seqD d = some ds → ds.length ≤ 3) (r : Ovs M xs) : Ovs M (v :: xs) := fun u h => by
  rcases List.mem_cons.mp h with e | h
  · subst e
    exact ⟨d, a, s, l⟩
  · exact r u h
theorem merge1 {k : Key} {x : V} : mergeK [] [(k, x)] = [(k, x)] := by
  unfold mergeK putK
  simp
/-- what is new since H -/
def newO (H M : Hp) : Hp := fun b => if H b = none then M b else none
theorem newO_same {H M : Hp} : Same (newO H M) M := fun b u e => by
  unfold newO at e
  split at e
  · exact e
  · cases e
theorem newO_up {H M M' : Hp} (s : Same M M') : Same (newO H M) (newO H M') := fun b u e => by
  unfold newO at e ⊢
  split at e
  · rename_i h
    rw [if_pos h]
    exact s _ _ e
  · cases e
theorem newO_at {H M : Hp} {b : Addr} {o : HO} (n : H b = none) (e : M b = some o) : newO H M b = some o := by
  unfold newO
  rw [if_pos n]
  exact e
theorem newO_hide {H M : Hp} {L : Addr} {o : HO} (h : H L = some o) : Same (newO H M) (hide L M) := fun b u e => by
  unfold newO at e
  split at e
  · rename_i n
    refine hide_at (fun z => ?_) e
    rw [z, h] at n
    cases n
  · cases e
theorem newO_hide2 {H M : Hp} {L D : Addr} {o o' : HO} (h : H L = some o) (h' : H D = some o') : Same (newO H M) (hide D (hide L M)) := fun b u e => by
  refine hide_at (fun z => ?_) (newO_hide h b u e)
  unfold newO at e
  rw [z, if_neg (by rw [h']; nofun)] at e
  cases e
def spOdd : Sp := fun vs H Q _ => ∃ (d c : Addr), vs = [.ref d] ∧ Src H d c ∧ ∀ (v : V) (H' : Hp), Ov (newO H (mask d c H')) v → Src H' d c → Keep d c H H' → Q v H'
def spLClk : Sp := fun vs H Q _ => ∃ (v : V) (d : PyData), vs = [v] ∧ Pv H v d ∧ Q (.bl (clkD d).isSome) H
section
variable {P : Program} {w : World} {K : PySem.W.Frag} {mg : Str → Option Value} {base : Heap} {f C : Addr} {fd : FuncData}

theorem scOdd : FnScope ["source", "some"] ["source"] (defScope sOdd) := ⟨rfl, rfl, rfl, by decide +kernel, rfl, by decide +kernel, by decide +kernel⟩
theorem ok_odd (F : Fun K "_law_odd" "_law_odd" sOdd f fd) (cO : Cb P w K mg base 2 "_law_of" spOf) : FnG P w K mg base 3 f fd ["source"] spOdd := by
  refine okG F scOdd (fun vs H Q E h => ?_) (fun cdv A outer s H vs Q E hg hr h => ?_)
  · obtain ⟨d, c, rfl, _⟩ := h
    rfl
  · obtain ⟨d, c, rfl, S, k⟩ := h
    refine ⟨_, (pss_cons (ps_set (i := 1) scOdd.nd rfl (.inl rfl) (pe_lst (pa_cons pe_non (pa_cons pe_bl (pa_cons pe_bl (pa_cons (pe_un un_neg pe_int) (pa_cons pe_int (pa_cons (pe_op op_pow pe_int pe_int) (pa_cons pe_str (pa_cons pe_str (pa_cons pe_str (pa_cons (pe_tup pa_nil) (pa_cons (pe_lst pa_nil) (pa_cons pe_dnewK (pa_cons (pe_tup (pa_cons pe_int pa_nil)) (pa_cons (pe_lst (pa_cons pe_int pa_nil)) (pa_cons (pe_tup (pa_cons pe_int (pa_cons pe_int pa_nil))) (pa_cons (pe_disp (pps_cons pe_int pe_int pps_nil) (by rfl) (by rfl) (fun z => by cases z) (by decide)) (pa_cons (pe_tup (pa_cons (pe_tup (pa_cons pe_int (pa_cons pe_int pa_nil))) (pa_cons pe_int pa_nil))) pa_nil)))))))))))))))))))
      (pss_one (ps_ret (pe_k cO hg hr (by decide) (by rfl) (pa_cons (pv 0) (pa_cons (pv 1) pa_nil)))))), ?_⟩
    refine ⟨_, rfl, _, _, rfl, rfl, ⟨by decide, by decide, by decide⟩, ?_⟩
    refine ⟨(by show 0 ≤ sizeLine; decide), fun t0 nt0 => ?_⟩
    have at0 := S.away nt0
    have St0 := S.new (o := .tup []) nt0
    have gt0 := mask_new (d := d) (c := c) (o := .tup []) nt0
    have kt0 := Keep.refl.new (d := d) (c := c) (o := .tup []) nt0
    have ft0 := mask_at (d := d) (c := c) at0 (upd_same (H := H) (a := t0) (o := .tup []))
    revert St0 gt0 kt0 ft0
    generalize upd H t0 (.tup []) = ht0
    intro St0 gt0 kt0 ft0
    refine ⟨(by show 0 ≤ sizeLine; decide), fun l0 nl0 => ?_⟩
    have al0 := St0.away nl0
    have Sl0 := St0.new (o := .lst []) nl0
    have gl0 := mask_new (d := d) (c := c) (o := .lst []) nl0
    have kl0 := Keep.refl.new (d := d) (c := c) (o := .lst []) nl0
    have fl0 := mask_at (d := d) (c := c) al0 (upd_same (H := ht0) (a := l0) (o := .lst []))
    revert Sl0 gl0 kl0 fl0
    generalize upd ht0 l0 (.lst []) = hl0
    intro Sl0 gl0 kl0 fl0
    intro d0 nd0
    have ad0 := Sl0.away nd0
    have Sd0 := Sl0.new (o := .dK []) nd0
    have gd0 := mask_new (d := d) (c := c) (o := .dK []) nd0
    have kd0 := Keep.refl.new (d := d) (c := c) (o := .dK []) nd0
    have fd0 := mask_at (d := d) (c := c) ad0 (upd_same (H := hl0) (a := d0) (o := .dK []))
    revert Sd0 gd0 kd0 fd0
    generalize upd hl0 d0 (.dK []) = hd0
    intro Sd0 gd0 kd0 fd0
    refine ⟨(by show 1 ≤ sizeLine; decide), fun t1 nt1 => ?_⟩
    have at1 := Sd0.away nt1
    have St1 := Sd0.new (o := .tup [.int 0]) nt1
    have gt1 := mask_new (d := d) (c := c) (o := .tup [.int 0]) nt1
    have kt1 := Keep.refl.new (d := d) (c := c) (o := .tup [.int 0]) nt1
    have ft1 := mask_at (d := d) (c := c) at1 (upd_same (H := hd0) (a := t1) (o := .tup [.int 0]))
    revert St1 gt1 kt1 ft1
    generalize upd hd0 t1 (.tup [.int 0]) = ht1
    intro St1 gt1 kt1 ft1
    refine ⟨(by show 1 ≤ sizeLine; decide), fun l1 nl1 => ?_⟩
    have al1 := St1.away nl1
    have Sl1 := St1.new (o := .lst [.int 0]) nl1
    have gl1 := mask_new (d := d) (c := c) (o := .lst [.int 0]) nl1
    have kl1 := Keep.refl.new (d := d) (c := c) (o := .lst [.int 0]) nl1
    have fl1 := mask_at (d := d) (c := c) al1 (upd_same (H := ht1) (a := l1) (o := .lst [.int 0]))
    revert Sl1 gl1 kl1 fl1
    generalize upd ht1 l1 (.lst [.int 0]) = hl1
    intro Sl1 gl1 kl1 fl1
    refine ⟨(by show 2 ≤ sizeLine; decide), fun t2 nt2 => ?_⟩
    have at2 := Sl1.away nt2
    have St2 := Sl1.new (o := .tup [.int 0, .int 1]) nt2
    have gt2 := mask_new (d := d) (c := c) (o := .tup [.int 0, .int 1]) nt2
    have kt2 := Keep.refl.new (d := d) (c := c) (o := .tup [.int 0, .int 1]) nt2
    have ft2 := mask_at (d := d) (c := c) at2 (upd_same (H := hl1) (a := t2) (o := .tup [.int 0, .int 1]))
    revert St2 gt2 kt2 ft2
    generalize upd hl1 t2 (.tup [.int 0, .int 1]) = ht2
    intro St2 gt2 kt2 ft2
    intro d1 nd1
    refine ⟨upd_same, [(Sum.inl 0, .int 1)], rfl, (by decide), ?_⟩
    rw [upd_upd, merge1]
    have ad1 := St2.away nd1
    have Sd1 := St2.new (o := .dK [((Sum.inl 0 : Key), V.int 1)]) nd1
    have gd1 := mask_new (d := d) (c := c) (o := .dK [((Sum.inl 0 : Key), V.int 1)]) nd1
    have kd1 := Keep.refl.new (d := d) (c := c) (o := .dK [((Sum.inl 0 : Key), V.int 1)]) nd1
    have fd1 := mask_at (d := d) (c := c) ad1 (upd_same (H := ht2) (a := d1) (o := .dK [((Sum.inl 0 : Key), V.int 1)]))
    revert Sd1 gd1 kd1 fd1
    generalize upd ht2 d1 (.dK [((Sum.inl 0 : Key), V.int 1)]) = hd1
    intro Sd1 gd1 kd1 fd1
    refine ⟨(by show 2 ≤ sizeLine; decide), fun t3 nt3 => ?_⟩
    have at3 := Sd1.away nt3
    have St3 := Sd1.new (o := .tup [.int 0, .int 1]) nt3
    have gt3 := mask_new (d := d) (c := c) (o := .tup [.int 0, .int 1]) nt3
    have kt3 := Keep.refl.new (d := d) (c := c) (o := .tup [.int 0, .int 1]) nt3
    have ft3 := mask_at (d := d) (c := c) at3 (upd_same (H := hd1) (a := t3) (o := .tup [.int 0, .int 1]))
    revert St3 gt3 kt3 ft3
    generalize upd hd1 t3 (.tup [.int 0, .int 1]) = ht3
    intro St3 gt3 kt3 ft3
    refine ⟨(by show 2 ≤ sizeLine; decide), fun t4 nt4 => ?_⟩
    have at4 := St3.away nt4
    have St4 := St3.new (o := .tup [.ref t3, .int 2]) nt4
    have gt4 := mask_new (d := d) (c := c) (o := .tup [.ref t3, .int 2]) nt4
    have kt4 := Keep.refl.new (d := d) (c := c) (o := .tup [.ref t3, .int 2]) nt4
    have ft4 := mask_at (d := d) (c := c) at4 (upd_same (H := ht3) (a := t4) (o := .tup [.ref t3, .int 2]))
    revert St4 gt4 kt4 ft4
    generalize upd ht3 t4 (.tup [.ref t3, .int 2]) = ht4
    intro St4 gt4 kt4 ft4
    have menu : Ovs (newO H (mask d c ht4)) [.non, .bl true, .bl false, .int (-1), .int 0, .int (10 ^ 39), .str "", .str "a", .str "0", .ref t0, .ref l0, .ref d0, .ref t1, .ref l1, .ref t2, .ref d1, .ref t4] := (ovC .non ⟨by decide +kernel, by decide +kernel, by decide +kernel⟩ (fun _ z => by cases z)
      (ovC (.bl _) ⟨by decide +kernel, by decide +kernel, by decide +kernel⟩ (fun _ z => by cases z)
      (ovC (.bl _) ⟨by decide +kernel, by decide +kernel, by decide +kernel⟩ (fun _ z => by cases z)
      (ovC (.int _) ⟨by decide +kernel, by decide +kernel, by decide +kernel⟩ (fun _ z => by cases z)
      (ovC (.int _) ⟨by decide +kernel, by decide +kernel, by decide +kernel⟩ (fun _ z => by cases z)
      (ovC (.int _) ⟨by decide +kernel, by decide +kernel, by decide +kernel⟩ (fun _ z => by cases z)
      (ovC (.str _) ⟨by decide +kernel, by decide +kernel, by decide +kernel⟩ (fun _ z => by cases z)
      (ovC (.str _) ⟨by decide +kernel, by decide +kernel, by decide +kernel⟩ (fun _ z => by cases z)
      (ovC (.str _) ⟨by decide +kernel, by decide +kernel, by decide +kernel⟩ (fun _ z => by cases z)
      (ovC (.tup (newO_at nt0 (gt4 _ _ (gt3 _ _ (gd1 _ _ (gt2 _ _ (gl1 _ _ (gt1 _ _ (gd0 _ _ (gl0 _ _ ft0))))))))) .nil) ⟨by decide +kernel, by decide +kernel, by decide +kernel⟩ (fun _ z => by cases z; decide)
      (ovC (.lst (newO_at (Keep.free kt0 al0 nl0) (gt4 _ _ (gt3 _ _ (gd1 _ _ (gt2 _ _ (gl1 _ _ (gt1 _ _ (gd0 _ _ fl0)))))))) .nil) ⟨by decide +kernel, by decide +kernel, by decide +kernel⟩ (fun _ z => by cases z; decide)
      (ovC (.dic (ds := []) (newO_at (Keep.free (kt0.trans kl0) ad0 nd0) (gt4 _ _ (gt3 _ _ (gd1 _ _ (gt2 _ _ (gl1 _ _ (gt1 _ _ fd0))))))) .nil) ⟨by decide +kernel, by decide +kernel, by decide +kernel⟩ (fun _ z => by cases z)
      (ovC (.tup (newO_at (Keep.free ((kt0.trans kl0).trans kd0) at1 nt1) (gt4 _ _ (gt3 _ _ (gd1 _ _ (gt2 _ _ (gl1 _ _ ft1)))))) (.cons (.int _) .nil)) ⟨by decide +kernel, by decide +kernel, by decide +kernel⟩ (fun _ z => by cases z; decide)
      (ovC (.lst (newO_at (Keep.free (((kt0.trans kl0).trans kd0).trans kt1) al1 nl1) (gt4 _ _ (gt3 _ _ (gd1 _ _ (gt2 _ _ fl1))))) (.cons (.int _) .nil)) ⟨by decide +kernel, by decide +kernel, by decide +kernel⟩ (fun _ z => by cases z; decide)
      (ovC (.tup (newO_at (Keep.free ((((kt0.trans kl0).trans kd0).trans kt1).trans kl1) at2 nt2) (gt4 _ _ (gt3 _ _ (gd1 _ _ ft2)))) (.cons (.int _) (.cons (.int _) .nil))) ⟨by decide +kernel, by decide +kernel, by decide +kernel⟩ (fun _ z => by cases z; decide)
      (ovC (.dic (ds := [.int 1]) (newO_at (Keep.free (((((kt0.trans kl0).trans kd0).trans kt1).trans kl1).trans kt2) ad1 nd1) (gt4 _ _ (gt3 _ _ fd1))) (.cons (.int _) .nil)) ⟨by decide +kernel, by decide +kernel, by decide +kernel⟩ (fun _ z => by cases z)
      (ovC (.tup (newO_at (Keep.free (((((((kt0.trans kl0).trans kd0).trans kt1).trans kl1).trans kt2).trans kd1).trans kt3) at4 nt4) ft4) (.cons (.tup (newO_at (Keep.free ((((((kt0.trans kl0).trans kd0).trans kt1).trans kl1).trans kt2).trans kd1) at3 nt3) (gt4 _ _ ft3)) (.cons (.int _) (.cons (.int _) .nil))) (.cons (.int _) .nil))) ⟨by decide +kernel, by decide +kernel, by decide +kernel⟩ (fun _ z => by cases z; decide)
      ovN)))))))))))))))))
    have kk := ((((((((kt0.trans kl0).trans kd0).trans kt1).trans kl1).trans kt2).trans kd1).trans kt3).trans kt4)
    refine ⟨(by show 17 ≤ sizeLine; decide), fun p np => ?_⟩
    have ap := St4.away np
    refine ⟨_, rfl, _, rfl, d, c, p, _, rfl, St4.new np, upd_same, ap.2, (by show 0 < 17; decide), (by show 17 < 1000000000; decide), fun i v H' hi S' kp => ?_⟩
    exact k v H' ((menu v (List.mem_of_getElem? hi)).same (newO_up ((mask_new np).trans (mask_keep kp)))) S' ((kk.new np).trans kp)
theorem scLClk : FnScope ["value"] ["value"] (defScope sLClk) := ⟨rfl, rfl, rfl, by decide +kernel, rfl, by decide +kernel, by decide +kernel⟩
theorem ok_lClk (F : Fun K "_law_is_clock" "_law_is_clock" sLClk f fd) (T : Wds mg) (cI : Cb P w K mg base 1 "_law_is_integer" spIsInt) : FnG P w K mg base 2 f fd ["value"] spLClk := by
  refine okG F scLClk (fun vs H Q E h => ?_) (fun cdv A outer s H vs Q E hg hr h => ?_)
  · obtain ⟨v, d, rfl, _⟩ := h
    rfl
  · obtain ⟨v, d, rfl, hv, k⟩ := h
    refine ⟨_, (pss_cons (ps_if (PW.pt (pw_or (pt_not (pt_val (pe_callB call_isi (by rfl) T.zisinstance (by decide +kernel) (pa_cons (pv 0) (pa_cons (pe_bltn (v := .ty "tuple") (by rfl) T.ztuple (by decide +kernel) rfl) pa_nil))))) (pw_or (pt_cmpR op_ne (pe_callB call_len_seq (by rfl) T.zlen (by decide +kernel) (pa_cons (pv 0) pa_nil)) pe_int (nomark _)) (pw_or1 (pt_not (pt_val (pe_k cI hg hr (by decide) (by rfl) (pa_cons (pe_ix ix_tup (pv 0) pe_int (fun _ _ => rfl)) pa_nil)))))))) (pss_one (ps_ret pe_bl)) pss_nil)
      (pss_one (ps_ret (pe_and (pe_k cI hg hr (by decide) (by rfl) (pa_cons (pe_ix ix_tup (pv 0) pe_int (fun _ _ => rfl)) pa_nil)) (pe_one (pe_chain op_lt op_lt pe_int (pe_ix ix_tup (pv 0) pe_int (fun _ _ => rfl)) pe_int)))))), ?_⟩
    rcases hv.tyTup (K := K) with ⟨t, xs, ds, rfl, rfl, ht, all⟩ | ⟨no, U, ty, kt⟩
    · refine ⟨_, rfl, .ref t, .ty "tuple", _, .type "tuple", true, rfl, .ty _, .base (.tup ht), kit_ty (by decide +kernel), true, rfl, iteF ?_⟩
      refine ⟨_, rfl, t, _, rfl, .inr (SqT.of ht), rfl, ?_⟩
      rw [dec_V]
      by_cases l2 : xs.length = 2
      · rw [decide_eq_true (show (xs.length : Int) = 2 by omega)]
        refine ⟨_, rfl, iteF ?_⟩
        obtain ⟨x, y, rfl⟩ : ∃ x y, xs = [x, y] := by
          match xs, l2 with
          | [x, y], _ => exact ⟨x, y, rfl⟩
        obtain ⟨dx, dy, rfl⟩ : ∃ x y, ds = [x, y] := by
          have e := all.len
          match ds, e with
          | [x, y], _ => exact ⟨x, y, rfl⟩
        obtain ⟨px, py⟩ : Pv H x dx ∧ Pv H y dy := by
          cases all with
          | cons a r => cases r with
            | cons b r => exact ⟨a, b⟩
        refine ⟨_, rfl, t, _, 0, _, rfl, rfl, SqT.of ht, rfl, x, rfl, px.od, isI x, rfl, ?_⟩
        cases px with
        | int f =>
          refine iteF ?_
          refine ⟨_, rfl, t, _, 1, _, rfl, rfl, SqT.of ht, rfl, y, rfl, py.od, isI y, rfl, ?_⟩
          cases py with
          | int s =>
            refine iteT ?_
            refine ⟨_, rfl, t, _, 1, _, rfl, rfl, SqT.of ht, rfl, _, _, rfl, rfl, _, rfl, ?_⟩
            have k : Q (.bl (clkOf [.int f, .int s]).isSome) H := k
            unfold clkOf at k
            by_cases s0 : (0 : Int) < s
            · rw [decide_eq_true s0]
              refine iteT ⟨_, _, rfl, rfl, ?_⟩
              show Q (.bl (decide (s < 61))) H
              by_cases s1 : s < 61
              · rw [decide_eq_true s1]
                simp only [if_pos (show 1 ≤ s ∧ s ≤ 60 by omega)] at k
                exact k
              · rw [decide_eq_false s1]
                simp only [if_neg (show ¬ (1 ≤ s ∧ s ≤ 60) by omega)] at k
                exact k
            · rw [decide_eq_false s0]
              simp only [if_neg (show ¬ (1 ≤ s ∧ s ≤ 60) by omega)] at k
              exact iteF k
          | _ => exact iteF k
        | _ => exact iteT k
      · rw [decide_eq_false (show ¬ (xs.length : Int) = 2 by omega)]
        refine ⟨_, rfl, iteT ?_⟩
        have k : Q (.bl (clkOf ds).isSome) H := k
        rw [clkOf_len (by rw [← all.len]; exact l2)] at k
        exact k
    · refine ⟨_, rfl, v, .ty "tuple", _, .type "tuple", false, rfl, .ty _, ty, kit_ty kt, false, rfl, iteT ?_⟩
      rw [no] at k
      exact k
theorem scWrong : FnScope ["start", "end", "period", "row", "k"] ["start", "end", "period", "row"] (defScope sWrong) := ⟨rfl, rfl, rfl, by decide +kernel, rfl, by decide +kernel, by decide +kernel⟩
theorem ok_wrong (F : Fun K "_law_wrong" "_law_wrong" sWrong f fd) (T : Wds mg) (cI : Cb P w K mg base 1 "_law_is_integer" spIsInt) (cOn : Cb P w K mg base 2 "_law_is_on" spOn) (cCk : Cb P w K mg base 2 "_law_is_clock" spLClk) : FnG P w K mg base 3 f fd ["start", "end", "period", "row"] spWLeadD := by
  refine okG F scWrong (fun vs H Q E h => ?_) (fun cdv A outer s H vs Q E hg hr h => ?_)
  · obtain ⟨b, e, p, row, db, de, dp, dr, rfl, _⟩ := h
    rfl
  · obtain ⟨b, e, p, row, db, de, dp, dr, rfl, hb, he, hp, hrow, few, k⟩ := h
    refine ⟨_, (pss_cons (ps_if (PW.pt (pw_or (pt_not (pt_val (pe_k cCk hg hr (by decide) (by rfl) (pa_cons (pv 0) pa_nil)))) (pw_or1 (pt_not (pt_val (pe_k cCk hg hr (by decide) (by rfl) (pa_cons (pv 1) pa_nil))))))) (pss_one (ps_ret (pe_ifExp (pt_val (pe_k cCk hg hr (by decide) (by rfl) (pa_cons (pv 0) pa_nil))) (pe_tup (pa_cons pe_int pa_nil)) (pe_tup (pa_cons pe_int pa_nil))))) pss_nil)
      (pss_cons (ps_if (PW.pt (pw_or (pt_not (pt_val (pe_k cI hg hr (by decide) (by rfl) (pa_cons (pv 2) pa_nil)))) (pw_or (pt_cmpR op_lt (pv 2) pe_int (nomark _)) (pw_or1 (pt_cmpR op_gt (pe_op op_add (pe_op op_mod (pe_callTy call_int1 (by rfl) T.zint (by decide +kernel) (pa_cons (pv 2) pa_nil)) (pe_ix ix_tup (pv 0) pe_int (fun _ _ => rfl))) (pe_op op_mod (pe_callTy call_int1 (by rfl) T.zint (by decide +kernel) (pa_cons (pv 2) pa_nil)) (pe_ix ix_tup (pv 1) pe_int (fun _ _ => rfl)))) pe_int (nomark _)))))) (pss_one (ps_ret (pe_tup (pa_cons pe_int pa_nil)))) pss_nil)
      (pss_cons (ps_if (PW.pt (pw_or (pt_not (pt_val (pe_callB call_isiT (by rfl) T.zisinstance (by decide +kernel) (pa_cons (pv 3) (pa_cons (pe_tup (pa_cons (pe_bltn (v := .ty "list") (by rfl) T.zlist (by decide +kernel) rfl) (pa_cons (pe_bltn (v := .ty "tuple") (by rfl) T.ztuple (by decide +kernel) rfl) pa_nil))) pa_nil))))) (pw_or1 (pt_cmpR op_ne (pe_op op_mul (pe_callB call_len_seq (by rfl) T.zlen (by decide +kernel) (pa_cons (pv 3) pa_nil)) (pe_ix ix_tup (pv 0) pe_int (fun _ _ => rfl))) (pv 2) (nomark _))))) (pss_one (ps_ret (pe_tup (pa_cons pe_int pa_nil)))) pss_nil)
      (pss_cons (ps_for PassesOwn.never rfl (pi_range1 (by rfl) T.zrange (pa_cons (pe_callB call_len_seq (by rfl) T.zlen (by decide +kernel) (pa_cons (pv 3) pa_nil)) pa_nil)) (pg_name (i := 4) scWrong.nd rfl (.inl rfl))
        (pss_one (ps_if (pt_not (pt_val (pe_k cOn hg hr (by decide) (by rfl) (pa_cons (pv 1) (pa_cons (pe_ix ix_seq (pv 3) (pv 4) (fun _ _ => rfl)) pa_nil))))) (pss_one (ps_ret (pe_tup (pa_cons pe_int (pa_cons (pv 4) pa_nil))))) pss_nil)))
      (pss_cons (ps_for PassesOwn.never rfl (pi_range2 (by rfl) T.zrange (pa_cons pe_int (pa_cons (pe_callB call_len_seq (by rfl) T.zlen (by decide +kernel) (pa_cons (pv 3) pa_nil)) pa_nil))) (pg_name (i := 4) scWrong.nd rfl (.inl rfl))
        (pss_one (ps_if (pt_cmpR op_lt (pe_ix ix_seq (pv 3) (pv 4) (fun _ _ => rfl)) (pe_ix ix_seq (pv 3) (pe_op op_sub (pv 4) pe_int) (fun _ _ => rfl)) (nomark _)) (pss_one (ps_ret (pe_tup (pa_cons pe_int (pa_cons (pv 4) pa_nil))))) pss_nil)))
      (pss_one (ps_ret (pe_ifExp (pt_cmpR op_gt (pe_ix ix_seq (pv 3) (pe_un un_neg pe_int) (fun _ _ => rfl)) (pe_op op_add (pe_ix ix_seq (pv 3) pe_int (fun _ _ => rfl)) (pv 2)) (nomark _)) (pe_tup (pa_cons pe_int (pa_cons pe_int pa_nil))) pe_non)))))))), ?_⟩
    unfold badD at k
    refine ⟨_, rfl, b, db, rfl, hb, _, rfl, ?_⟩
    cases cb : clkD db with
    | none =>
      refine iteT (iteT ⟨_, rfl, b, db, rfl, hb, _, rfl, ?_⟩)
      rw [cb]
      refine iteF ⟨(by show 1 ≤ sizeLine; decide), fun q nq => ?_⟩
      rw [cb] at k
      exact k _ _ (same_new nq) ⟨q, rfl, upd_same⟩
    | some y =>
    obtain ⟨f, s⟩ := y
    rw [cb] at k
    dsimp only at k
    refine iteF ?_
    refine ⟨_, rfl, e, de, rfl, he, _, rfl, ?_⟩
    cases ce : clkD de with
    | none =>
      refine iteT ⟨_, rfl, b, db, rfl, hb, _, rfl, ?_⟩
      rw [cb]
      refine iteT ⟨(by show 1 ≤ sizeLine; decide), fun q nq => ?_⟩
      rw [ce] at k
      exact k _ _ (same_new nq) ⟨q, rfl, upd_same⟩
    | some z =>
    obtain ⟨g, r⟩ := z
    rw [ce] at k
    dsimp only at k
    refine iteF ?_
    obtain ⟨rfl, s0, s1⟩ := clkD_some cb
    obtain ⟨rfl, r0, r1⟩ := clkD_some ce
    obtain ⟨ba, rfl, hba⟩ : ∃ ba, b = .ref ba ∧ H ba = some (.tup [.int f, .int s]) := by
      cases hb with
      | tup h a => exact ⟨_, rfl, by rw [h, PvAll.ints (ks := [f, s]) a]; rfl⟩
    obtain ⟨ea, rfl, hea⟩ : ∃ ba, e = .ref ba ∧ H ba = some (.tup [.int g, .int r]) := by
      cases he with
      | tup h a => exact ⟨_, rfl, by rw [h, PvAll.ints (ks := [g, r]) a]; rfl⟩
    refine ⟨_, rfl, p, rfl, hp.od, isI p, rfl, ?_⟩
    rw [hp.isI]
    cases ip : isIntD dp with
    | false =>
      refine iteT (iteT ⟨(by show 1 ≤ sizeLine; decide), fun q nq => ?_⟩)
      rw [ip] at k
      exact k _ _ (same_new nq) ⟨q, rfl, upd_same⟩
    | true =>
    refine iteF ?_
    obtain ⟨n, rfl, rfl⟩ : ∃ n, p = .int n ∧ dp = .int n := by
      cases hp with
      | int n => exact ⟨n, rfl, rfl⟩
      | _ => cases ip
    have k : ∀ v H', Same H H' → RetP H' (if perOk n s r = true then (match seqD dr with | none => some [3] | some ds => if (ds.length : Int) * s = n then rowBad g r n ds else some [3]) else some [2]) v → Q v H' := k
    refine ⟨_, rfl, _, _, rfl, rfl, _, rfl, ?_⟩
    by_cases n1 : n < 1
    · rw [decide_eq_true n1]
      refine iteT (iteT ⟨(by show 1 ≤ sizeLine; decide), fun q nq => ?_⟩)
      have no : perOk n s r = false := by
        unfold perOk
        rw [decide_eq_false (show ¬ (1 : Int) ≤ n by omega)]
        rfl
      rw [no] at k
      exact k _ _ (same_new nq) ⟨q, rfl, upd_same⟩
    rw [decide_eq_false n1]
    refine iteF ?_
    refine ⟨_, rfl, .inl ⟨_, rfl, _, rfl, ba, _, 1, _, rfl, rfl, SqT.of hba, rfl, _, _, rfl, rfl, by omega, _, rfl, .inl ⟨_, rfl, _, rfl, ea, _, 1, _, rfl, rfl, SqT.of hea, rfl, _, _, rfl, rfl, by omega, _, _, rfl, rfl, _, _, rfl, rfl, _, rfl, ?_⟩⟩⟩
    have m0 := Int.emod_nonneg n (show s ≠ 0 by omega)
    have m1 := Int.emod_nonneg n (show r ≠ 0 by omega)
    by_cases per : n % s = 0 ∧ n % r = 0
    case neg =>
      rw [decide_eq_true (show n % s + n % r > 0 by omega)]
      refine iteT ⟨(by show 1 ≤ sizeLine; decide), fun q nq => ?_⟩
      have no : perOk n s r = false := by
        unfold perOk
        rcases Classical.em (n % s = 0) with a | a
        · rw [decide_eq_false (show ¬ n % r = 0 from fun z => per ⟨a, z⟩), Bool.and_false, Bool.and_false]
        · rw [decide_eq_false a, Bool.false_and, Bool.and_false]
      rw [no] at k
      exact k _ _ (same_new nq) ⟨q, rfl, upd_same⟩
    obtain ⟨ns, nr⟩ := per
    rw [decide_eq_false (show ¬ n % s + n % r > 0 by omega)]
    refine iteF ?_
    have yes : perOk n s r = true := by
      unfold perOk
      rw [decide_eq_true (show (1 : Int) ≤ n by omega), decide_eq_true ns, decide_eq_true nr]
      rfl
    rw [yes] at k
    simp only [if_true] at k
    refine ⟨_, rfl, (by show 2 ≤ sizeLine; decide), fun tp nt => ?_⟩
    have s4 := same_new (o := .tup [.ty "list", .ty "tuple"]) nt
    have hrow4 := hrow.same s4
    rcases hrow4.tySeq (K := K) with ⟨ra, xs, ds, rfl, es, row2, all⟩ | ⟨no, T, ty, kt⟩
    case inr =>
      refine ⟨_, tp, _, .type T, _, false, rfl, upd_same, .cons (.ty _) (.cons (.ty _) .nil), ty, kt, false, rfl, iteT (iteT ⟨(by show 1 ≤ sizeLine; decide), fun q nq => ?_⟩)⟩
      rw [no] at k
      exact k _ _ (s4.trans (same_new nq)) ⟨q, rfl, upd_same⟩
    obtain ⟨U, ty, kt⟩ := row2.type (K := K)
    refine ⟨_, tp, _, .type U, _, true, rfl, upd_same, .cons (.ty _) (.cons (.ty _) .nil), ty, kt, true, rfl, iteF ?_⟩
    rw [es] at k
    dsimp only at k
    have len := all.len
    have few := few ds es
    have hba := s4 _ _ hba
    have hea := s4 _ _ hea
    revert s4 row2 all hba hea
    generalize upd H tp (.tup [.ty "list", .ty "tuple"]) = H2
    intro s4 row2 all hba hea
    refine ⟨_, rfl, ra, _, rfl, row2.seq, _, rfl, ba, _, 1, _, rfl, rfl, SqT.of hba, rfl, _, _, rfl, rfl, .inl ⟨by omega, by omega⟩, _, rfl, rfl, ?_⟩
    rw [dec_V]
    by_cases le : (xs.length : Int) * s = n
    case neg =>
      rw [decide_eq_false le]
      rw [if_neg (show ¬ (ds.length : Int) * s = n by rw [← len]; exact le)] at k
      refine ⟨_, rfl, iteT ⟨(by show 1 ≤ sizeLine; decide), fun q nq => ?_⟩⟩
      exact k _ _ (s4.trans (same_new nq)) ⟨q, rfl, upd_same⟩
    rw [decide_eq_true le]
    rw [if_pos (show (ds.length : Int) * s = n by rw [← len]; exact le)] at k
    refine ⟨_, rfl, iteF ?_⟩
    have pos : 0 < xs.length := by
      rcases Nat.eq_zero_or_pos xs.length with z | z
      · rw [z] at le
        omega
      · exact z
    refine ⟨_, rfl, ra, _, rfl, row2.seq, (xs.length : Int), rfl, by omega, by omega, ?_⟩
    refine for_range (lo := 0) (n := xs.length) (fun i σ H3 => ∃ (v4 : Option V), σ = [some (.ref ba), some (.ref ea), some (.int n), some (.ref ra), v4] ∧ H3 = H2 ∧ ∀ j, j < i → onD g r (ds.getD j .none) = true) ⟨_, rfl, rfl, fun j hj => absurd hj (Nat.not_lt_zero j)⟩ ?_ ?_
    · rintro i σ H3 hi ⟨v4, rfl, rfl, on⟩
      obtain ⟨d, hd, hv⟩ := all.at_ (List.getElem?_eq_getElem hi)
      refine ⟨_, rfl, _, rfl, _, rfl, rIx_of row2 (at_of (j := i) (by omega) (List.getElem?_eq_getElem hi)) ?_⟩
      refine ⟨ea, g, r, _, rfl, hea, by omega, hv.od, onB g r xs[i], rfl, ?_⟩
      have ed := hv.onB g r
      cases ob : onB g r xs[i] with
      | true =>
        refine iteF ⟨_, rfl, rfl, fun j hj => ?_⟩
        rcases Nat.lt_or_ge j i with lt | ge
        · exact on j lt
        · cases (show j = i by omega)
          rw [getD_at hd, ← ed, ob]
      | false =>
        refine iteT ?_
        refine ⟨_, rfl, (by show 2 ≤ sizeLine; decide), fun q nq => ?_⟩
        refine k _ _ (s4.trans (same_new nq)) ?_
        have e1 : firstNot (fun k => onD g r (ds.getD k .none)) 0 ds.length = some i := firstNot_some (Nat.zero_le _) (by omega) (fun j _ hj => on j hj) (by show onD g r (ds.getD i .none) = false; rw [getD_at hd, ← ed, ob])
        unfold rowBad
        rw [e1]
        refine ⟨q, rfl, ?_⟩
        rw [upd_same]
        show some (HO.tup [.int 3, .int (0 + (i : Int))]) = some (HO.tup [.int 3, .int (i : Int)])
        rw [Int.zero_add]
    · rintro σ H3 ⟨v4, rfl, rfl, on⟩
      have at_ : ∀ i, i < xs.length → xs[i]? = some (.int (intD (ds.getD i .none))) := fun i hi => on_at_all all on hi
      have e1 : firstNot (fun k => onD g r (ds.getD k .none)) 0 ds.length = none := firstNot_none fun j _ hj => on j (by omega)
      refine ⟨_, rfl, ra, _, rfl, row2.seq, 1, (xs.length : Int), rfl, ⟨by omega, by omega, by omega, by omega⟩, ?_⟩
      refine for_range (lo := 1) (fun i σ H4 => ∃ (v4 : Option V), σ = [some (.ref ba), some (.ref ea), some (.int n), some (.ref ra), v4] ∧ H4 = H3 ∧ ∀ j, 1 ≤ j → j < i + 1 → intD (ds.getD (j - 1) .none) ≤ intD (ds.getD j .none)) ⟨_, rfl, rfl, fun j a b => by omega⟩ ?_ ?_
      · rintro i σ H4 hi ⟨v4, rfl, rfl, mono⟩
        have hi1 : i + 1 < xs.length := by omega
        refine ⟨_, rfl, _, rfl, rIx_of row2 (at_of (j := i + 1) (by omega) (at_ _ hi1)) ?_⟩
        refine ⟨_, rfl, _, rfl, _, _, rfl, rfl, rIx_of row2 (at_of (j := i) (by omega) (at_ _ (by omega))) ?_⟩
        refine ⟨_, _, rfl, rfl, _, rfl, ?_⟩
        by_cases lt : intD (ds.getD (i + 1) .none) < intD (ds.getD i .none)
        · rw [decide_eq_true lt]
          refine iteT ?_
          refine ⟨_, rfl, (by show 2 ≤ sizeLine; decide), fun q nq => ?_⟩
          refine k _ _ (s4.trans (same_new nq)) ?_
          have e2 : firstNot (fun k => decide (intD (ds.getD (k - 1) .none) ≤ intD (ds.getD k .none))) 1 (ds.length - 1) = some (i + 1) := firstNot_some (by omega) (by omega) (fun j a b => decide_eq_true (mono j a b)) (by
            rw [Nat.add_sub_cancel]
            exact decide_eq_false (by omega))
          unfold rowBad
          rw [e1]
          simp only []
          rw [e2]
          refine ⟨q, rfl, ?_⟩
          rw [upd_same]
          show some (HO.tup [.int 4, .int (1 + (i : Int))]) = some (HO.tup [.int 4, .int ((i + 1 : Nat) : Int)])
          rw [show (1 + (i : Int)) = ((i + 1 : Nat) : Int) by omega]
        · rw [decide_eq_false lt]
          refine iteF ⟨_, rfl, rfl, fun j a b => ?_⟩
          rcases Nat.lt_or_ge j (i + 1) with l | g
          · exact mono j a l
          · cases (show j = i + 1 by omega)
            rw [Nat.add_sub_cancel]
            omega
      · rintro σ H4 ⟨v4, rfl, rfl, mono⟩
        have e2 : firstNot (fun k => decide (intD (ds.getD (k - 1) .none) ≤ intD (ds.getD k .none))) 1 (ds.length - 1) = none := firstNot_none fun j a b => decide_eq_true (mono j a (by omega))
        refine ⟨_, rfl, 1, rfl, rIx_of row2 (atLast pos (at_ _ (by omega))) ?_⟩
        refine ⟨_, rfl, rIx_of row2 (at_of (j := 0) rfl (at_ 0 pos)) ?_⟩
        refine ⟨_, rfl, _, _, rfl, rfl, _, _, rfl, rfl, _, rfl, ?_⟩
        have kk : rowBad g r n ds = if intD (ds.getD 0 .none) + n < intD (ds.getD (ds.length - 1) .none) then some [4, 0] else none := by
          unfold rowBad
          rw [e1]
          simp only []
          rw [e2]
        rw [len]
        by_cases gt : intD (ds.getD (ds.length - 1) .none) > intD (ds.getD 0 .none) + n
        · rw [decide_eq_true gt]
          refine iteT ⟨(by show 2 ≤ sizeLine; decide), fun q nq => ?_⟩
          refine k _ _ (s4.trans (same_new nq)) ?_
          rw [kk, if_pos (by omega)]
          exact ⟨q, rfl, upd_same⟩
        · rw [decide_eq_false gt]
          refine iteF (k _ _ s4 ?_)
          rw [kk, if_neg (by omega)]
          rfl
end
end L15
namespace L15
open PySem PySem.Spec L2 Rt Rs Ld
open PyProof.Rows hiding St
open LamX

theorem scTold : FnScope ["call", "e"] ["call"] (defScope sTold) := ⟨rfl, rfl, rfl, by decide +kernel, rfl, by decide +kernel, by decide +kernel⟩
/-- what the try makes of a call -/
def TTold (CB CW : Addr) : (XK → Hp → VK → Prop) → Hp → VK → Prop := fun tl H Q =>
  tl (fun cls d H' => (cls = .ref CB ∧ ∃ dd q, d = some dd ∧ H' dd = some (.xd [("path", .ref q)]) ∧ ∀ p, H' p = none → Q (.ref p) (upd H' p (.tup [.str "refused", .ref q]))) ∨
    (cls = .ref CW ∧ ∀ p, H' p = none → Q (.ref p) (upd H' p (.tup [.str "refused"])))) H
    fun _ H' => Q .non H'
structure ExcL (K : PySem.W.Frag) (mg : Str → Option Value) (CB CW : Addr) : Prop where
  mB : mg "BadLead" = some (.ref CB)
  mW : mg "NoWay" = some (.ref CW)
  xf : XfC K CB
  no : PySem.W.findIn K (.ref CB) "path" = some none
  bb : PySem.W.exmOne K (.ref CB) (.ref CB) = some true
  wb : PySem.W.exmOne K (.ref CW) (.ref CB) = some false
  ww : PySem.W.exmOne K (.ref CW) (.ref CW) = some true
theorem gives_told {X : Cx} {g CB CW : Addr} {cdg : Value} {q : Str} {k : Nat} (hr : Room (k + 1) X.A) (hk : 2 ≤ k) (EF : ExcL X.K X.mg CB CW) :
    GivesTo X ["call", "e"] "_law_told" (defScope sTold) g cdg (defBody sTold) "call" q (TTold CB CW) := by
  intro f c' s H Q tl act hc h
  have hr2 := hr.deeper (envOfC "_law_told" (defScope sTold) s.heap.objs.size g cdg)
  refine ⟨_, pss_cons (ps_tryA (X := (cxOf C8.CX0 X.prog X.w X.K X.mg X.base ["call", "e"] "_law_told" (defScope sTold) g cdg X.A X.stack s H C8.E0).nox) (l := [(.ref CB, some 1, _), (.ref CW, none, _)])
      (tb := fun W D σ H => ∃ Ech : XK, (∀ cls d σ' H', Ech cls d H' → W cls d σ' H') ∧ σ[0]? = some (some (.ref f)) ∧ H c' = some (CodeO c' q) ∧ tl Ech H fun _ H' => D.nx σ H')
      rfl rfl scTold.nd LamX.takes0 (fun W pn xe tk => ?_)
      (.named ⟨by rfl, rfl, .inl EF.mB⟩ rfl (by rfl) (fun a oe cls d pn hz hf => pss_one (ps_ret (pe_tup (pa_cons pe_str (pa_cons (pe_xf EF.xf EF.no hz hf (pv 1)) pa_nil))))) (.bare ⟨by rfl, rfl, .inl EF.mW⟩ (fun a oe cls d pn _ _ => pss_one (ps_ret (pe_tup (pa_cons pe_str pa_nil)))) .none)))
      (pss_one (ps_ret pe_non)), ?_⟩
  · refine ⟨fun pins s' σ H' D I h' => ?_⟩
    obtain ⟨Ech, hW, h1, h2, h3⟩ := h'
    exact (pss_one (ps_expr (act W pn xe Ech _ _ tk hW))).run pins s' σ H' D I ⟨h1, h2, h3⟩
  · refine ⟨fun cls d H' => (cls = .ref CB ∧ ∃ dd q, d = some dd ∧ H' dd = some (.xd [("path", .ref q)]) ∧ ∀ p, H' p = none → Q (.ref p) (upd H' p (.tup [.str "refused", .ref q]))) ∨
    (cls = .ref CW ∧ ∀ p, H' p = none → Q (.ref p) (upd H' p (.tup [.str "refused"]))), ?_, rfl, hc, ?_⟩
    · rintro cls d σ' H' (⟨rfl, dd, q, rfl, hd, hq⟩ | ⟨rfl, hq⟩) len
      · refine ⟨true, EF.bb, fun _ a _ => ?_, nofun⟩
        have l2 : 1 < σ'.length := by rw [len]; show 1 < 2; decide
        refine ⟨_, List.getElem?_set_self l2, rfl, rfl, dd, _, _, rfl, hd, rfl, ?_⟩
        exact ⟨(by show 2 ≤ sizeLine; decide), hq⟩
      · refine ⟨false, EF.wb, nofun, fun _ => ⟨true, EF.ww, fun _ a _ => ?_, nofun⟩⟩
        exact ⟨(by show 1 ≤ sizeLine; decide), hq⟩
    · exact h
end L15
namespace L15
open PySem PySem.Spec L2 Rt Rs Ld
open PyProof.Rows hiding St
open LamX

abbrev sBent : Stmt := top 35
abbrev sNear : Stmt := top 36
/-- data that is told not too long -/
structure Fit (d : PyData) : Prop where
  sh : d.showable = true
  dp : d.depth ≤ 4
  ln : d.shown.length ≤ 100000
  few : ∀ ds, seqD d = some ds → ds.length ≤ 200
theorem _root_.Rs.Sm.fit {d : PyData} (h : Sm d) (l : ∀ ds, seqD d = some ds → ds.length ≤ 200) : Fit d := ⟨h.sh, Nat.le_trans h.dp (by decide), Nat.le_trans h.ln (by decide), l⟩
theorem fit_tup {ds : List PyData} (h : ∀ d, d ∈ ds → Sm d) (le : ds.length ≤ 200) : Fit (.tuple ds) := by
  obtain ⟨i1, i2, i3, i4⟩ := sum_le h
  refine ⟨by simpa only [PyData.showable] using i3, by simp only [PyData.depth]; omega, ?_, fun es z => by cases z; exact le⟩
  simp only [PyData.shown]
  have := tupleText_len_le (PyData.shownAll ds)
  omega
theorem fit_lst {ds : List PyData} (h : ∀ d, d ∈ ds → Sm d) (le : ds.length ≤ 200) : Fit (.list ds) := by
  obtain ⟨i1, i2, i3, i4⟩ := sum_le h
  refine ⟨by simpa only [PyData.showable] using i3, by simp only [PyData.depth]; omega, ?_, fun es z => by cases z; exact le⟩
  simp only [PyData.shown]
  have := listText_len_le (PyData.shownAll ds)
  omega
theorem fit_int {i : Int} (h : i.natAbs < 10 ^ 40) : Fit (.int i) := (sm_int h).fit fun _ z => by cases z
theorem sm_bool (b : Bool) : Sm (.bool b) := by cases b <;> exact ⟨by decide +kernel, by decide +kernel, by decide +kernel⟩
theorem sm_none : Sm .none := ⟨by decide +kernel, by decide +kernel, by decide +kernel⟩
theorem sm_text {i : Int} (h : i.natAbs < 10 ^ 40) : Sm (.str (Str.ofString (toString i))) := by
  refine ⟨by simp [PyData.showable], by simp [PyData.depth], ?_⟩
  simp only [PyData.shown]
  have l : (Str.ofString (toString i)).length ≤ 41 := by
    rw [ofString_len]
    exact int_text_length_le10 (k := 40) (by decide) h
  refine Nat.le_trans (StrLaws.reprText_len _ fun c m => ?_) (by omega)
  refine Nat.lt_of_not_le fun z => int_text_free' c ⟨?_, ?_⟩ i m
  · omega
  · omega
/-- a part of what should be a lead -/
def Pt (M : Hp) (v : V) : Prop := ∃ d, Pv M v d ∧ Fit d
theorem Pt.same {M M' : Hp} {v : V} (h : Pt M v) (s : Same M M') : Pt M' v := by
  obtain ⟨d, a, b⟩ := h
  exact ⟨d, Pv.same s _ _ a, b⟩
theorem Ov.pt {M : Hp} {v : V} (h : Ov M v) : Pt M v := by
  obtain ⟨d, a, b, c⟩ := h
  exact ⟨d, a, b.fit fun ds z => Nat.le_trans (c ds z) (by decide)⟩
theorem pt_int {M : Hp} {i : Int} (h : i.natAbs < 10 ^ 40) : Pt M (.int i) := ⟨_, .int i, fit_int h⟩
def Pts (M : Hp) (xs : List V) : Prop := ∀ v, v ∈ xs → Pt M v
theorem Pts.same {M M' : Hp} {xs : List V} (h : Pts M xs) (s : Same M M') : Pts M' xs := fun v m => (h v m).same s
theorem ptsN {M : Hp} : Pts M [] := fun _ h => nomatch h
theorem ptsC {M : Hp} {v : V} {xs : List V} (a : Pt M v) (r : Pts M xs) : Pts M (v :: xs) := fun u h => by
  rcases List.mem_cons.mp h with e | h
  · subst e
    exact a
  · exact r u h
theorem ptsA {M : Hp} {xs ys : List V} (a : Pts M xs) (b : Pts M ys) : Pts M (xs ++ ys) := fun v m => by
  rcases List.mem_append.mp m with h | h
  · exact a v h
  · exact b v h
theorem smN : ∀ d, d ∈ ([] : List PyData) → Sm d := fun _ h => nomatch h
theorem smC {d : PyData} {ds : List PyData} (a : Sm d) (r : ∀ e, e ∈ ds → Sm e) : ∀ e, e ∈ d :: ds → Sm e := fun e h => by
  rcases List.mem_cons.mp h with z | h
  · subst z
    exact a
  · exact r e h
/-- parts told in a tuple -/
def Cand (M : Hp) (q : Addr) : Prop := ∃ b e p r, M q = some (.tup [b, e, p, r]) ∧ Pt M b ∧ Pt M e ∧ Pt M p ∧ Pt M r
theorem Cand.same {M M' : Hp} {q : Addr} (h : Cand M q) (s : Same M M') : Cand M' q := by
  obtain ⟨b, e, p, r, h1, h2, h3, h4, h5⟩ := h
  exact ⟨b, e, p, r, s _ _ h1, h2.same s, h3.same s, h4.same s, h5.same s⟩
def Cands (M : Hp) (qs : List Addr) : Prop := ∀ q, q ∈ qs → Cand M q
theorem Cands.same {M M' : Hp} {qs : List Addr} (h : Cands M qs) (s : Same M M') : Cands M' qs := fun q m => (h q m).same s
theorem candsA {M : Hp} {xs ys : List Addr} (a : Cands M xs) (b : Cands M ys) : Cands M (xs ++ ys) := fun v m => by
  rcases List.mem_append.mp m with h | h
  · exact a v h
  · exact b v h
theorem free_of {H H1 : Hp} {p : Addr} (s : Same H H1) (n : H1 p = none) : H p = none := by
  cases e : H p with
  | none => rfl
  | some o => exact nomatch n.symm.trans (s _ _ e)
theorem newO_mask {H M : Hp} {d c : Addr} (S : Src H d c) : Same (newO H M) (mask d c M) := fun b u e => by
  obtain ⟨ks, l, m, t, q1, q2⟩ := S.ex
  have n : H b = none := by
    unfold newO at e
    split at e
    · assumption
    · cases e
  exact mask_at ⟨fun z => (by rw [z, q1] at n; cases n), fun z => (by rw [z, q2] at n; cases n)⟩ (newO_same _ _ e)
theorem newO_maskH {H M : Hp} {d c L : Addr} {o : HO} (S : Src H d c) (h : H L = some o) : Same (newO H M) (hide L (mask d c M)) := fun b u e => by
  refine hide_at (fun z => ?_) (newO_mask S b u e)
  unfold newO at e
  rw [z, if_neg (by rw [h]; nofun)] at e
  cases e
/-- an item -/
def It (M : Hp) (x : V) : Prop := ∃ d, Pv M x d ∧ Sm d
theorem It.same {M M' : Hp} {v : V} (h : It M v) (s : Same M M') : It M' v := by
  obtain ⟨d, a, b⟩ := h
  exact ⟨d, Pv.same s _ _ a, b⟩
theorem it_int {M : Hp} {i : Int} (h : i.natAbs < 10 ^ 40) : It M (.int i) := ⟨_, .int i, sm_int h⟩
theorem Ov.it {M : Hp} {v : V} (h : Ov M v) : It M v := by
  obtain ⟨d, a, b, _⟩ := h
  exact ⟨d, a, b⟩
theorem its_all {M : Hp} : ∀ xs : List V, (∀ x, x ∈ xs → It M x) → ∃ ds, PvAll M xs ds ∧ ∀ d, d ∈ ds → Sm d
  | [], _ => ⟨[], .nil, fun d h => nomatch h⟩
  | x :: xs, h => by
    obtain ⟨d, hd, sd⟩ := h x List.mem_cons_self
    obtain ⟨ds, hs, ss⟩ := its_all xs fun y m => h y (List.mem_cons_of_mem _ m)
    refine ⟨d :: ds, .cons hd hs, fun y m => ?_⟩
    rcases List.mem_cons.mp m with rfl | m
    · exact sd
    · exact ss y m
theorem pt_lst {M : Hp} {q : Addr} {xs : List V} (h : M q = some (.lst xs)) (its : ∀ x, x ∈ xs → It M x) (le : xs.length ≤ 200) : Pt M (.ref q) := by
  obtain ⟨ds, hs, ss⟩ := its_all xs its
  exact ⟨_, .lst h hs, fit_lst ss (by rw [← hs.len]; exact le)⟩
theorem pt_tup {M : Hp} {q : Addr} {xs : List V} (h : M q = some (.tup xs)) (its : ∀ x, x ∈ xs → It M x) (le : xs.length ≤ 200) : Pt M (.ref q) := by
  obtain ⟨ds, hs, ss⟩ := its_all xs its
  exact ⟨_, .tup h hs, fit_tup ss (by rw [← hs.len]; exact le)⟩
theorem cutV_mem {xs : List V} {lo hi : Option Int} {x : V} (h : x ∈ cutV xs lo hi) : x ∈ xs := by
  unfold cutV at h
  exact List.mem_of_mem_drop (List.mem_of_mem_take h)
theorem cutV_len {xs : List V} {lo hi : Option Int} : (cutV xs lo hi).length ≤ xs.length := by
  unfold cutV
  rw [List.length_take, List.length_drop]
  omega
def spBent : Sp := fun vs H Q _ => ∃ (t : Addr) (f s : Int), vs = [.ref t] ∧ H t = some (.tup [.int f, .int s]) ∧ 0 < s ∧ s ≤ 60 ∧ f.natAbs < 10 ^ 40 ∧ ∀ p xs H', Same H H' → H p = none → H' p = some (.lst xs) → Pts (newO H H') xs → xs.length = 11 → Q (.ref p) H'
section
variable {P : Program} {w : World} {K : PySem.W.Frag} {mg : Str → Option Value} {base : Heap} {f C : Addr} {fd : FuncData}

theorem scBent : FnScope ["clock", "first", "step", "found"] ["clock"] (defScope sBent) := ⟨rfl, rfl, rfl, by decide +kernel, rfl, by decide +kernel, by decide +kernel⟩
theorem ok_bent (F : Fun K "_law_bent_clocks" "_law_bent_clocks" sBent f fd) (T : Wds mg) (zstr : mg "str" = none) : FnG P w K mg base 1 f fd ["clock"] spBent := by
  refine okG F scBent (fun vs H Q E h => ?_) (fun cdv A outer s H vs Q E hg hr h => ?_)
  · obtain ⟨t, f, s, rfl, _⟩ := h
    rfl
  · obtain ⟨t, f, s, rfl, ht, s0, s60, f40, k⟩ := h
    refine ⟨_, (pss_cons (ps_asg (pv 0) (pg_tup (by rfl) (pgs_cons (pg_name (i := 1) scBent.nd rfl (.inl rfl)) (pgs_cons (pg_name (i := 2) scBent.nd rfl (.inl rfl)) pgs_nil))))
      (pss_cons (ps_set (i := 3) scBent.nd rfl (.inl rfl) (pe_lst (pa_cons (pe_callTy call_list_of (by rfl) T.zlist (by decide +kernel) (pa_cons (pv 0) pa_nil)) (pa_cons (pe_tup (pa_cons (pv 1) (pa_cons pe_int pa_nil))) (pa_cons (pe_tup (pa_cons (pv 1) (pa_cons pe_int pa_nil))) (pa_cons (pe_tup (pa_cons pe_bl (pa_cons (pv 2) pa_nil))) (pa_cons (pe_tup (pa_cons (pv 1) (pa_cons pe_bl pa_nil))) (pa_cons (pe_tup (pa_cons pe_non (pa_cons (pv 2) pa_nil))) (pa_cons (pe_tup (pa_cons (pv 1) (pa_cons (pe_un un_neg (pv 2)) pa_nil))) pa_nil)))))))))
      (pss_one (ps_ret (pe_op op_cat (pv 3) (pe_lst (pa_cons (pe_op op_catT (pv 0) (pe_tup (pa_cons pe_int pa_nil))) (pa_cons (pe_tup (pa_cons (pv 1) pa_nil)) (pa_cons (pe_tup (pa_cons (pe_callTy call_str_int (by rfl) zstr (by decide +kernel) (pa_cons (pv 1) pa_nil)) (pa_cons (pv 2) pa_nil))) (pa_cons (pe_tup (pa_cons (pv 1) (pa_cons pe_non pa_nil))) pa_nil)))))))))), ?_⟩
    refine ⟨_, rfl, t, _, rfl, SqT.of ht, rfl, _, _, rfl, _, _, rfl, rfl, ?_⟩
    refine ⟨_, rfl, t, _, rfl, .inr (SqT.of ht), fun a0 na0 => ?_⟩
    have qa0 := same_new (H := H) (o := .lst [.int f, .int s]) na0
    have fa0 := upd_same (H := H) (a := a0) (o := .lst [.int f, .int s])
    revert qa0 fa0
    generalize upd H a0 (.lst [.int f, .int s]) = ha0
    intro qa0 fa0
    refine ⟨_, rfl, (by show 2 ≤ sizeLine; decide), fun a1 na1 => ?_⟩
    have qa1 := same_new (H := ha0) (o := (.tup [.int f, .int 0])) na1
    have fa1 := upd_same (H := ha0) (a := a1) (o := (.tup [.int f, .int 0]))
    revert qa1 fa1
    generalize upd ha0 a1 ((.tup [.int f, .int 0])) = ha1
    intro qa1 fa1
    refine ⟨_, rfl, (by show 2 ≤ sizeLine; decide), fun a2 na2 => ?_⟩
    have qa2 := same_new (H := ha1) (o := (.tup [.int f, .int 61])) na2
    have fa2 := upd_same (H := ha1) (a := a2) (o := (.tup [.int f, .int 61]))
    revert qa2 fa2
    generalize upd ha1 a2 ((.tup [.int f, .int 61])) = ha2
    intro qa2 fa2
    refine ⟨_, rfl, (by show 2 ≤ sizeLine; decide), fun a3 na3 => ?_⟩
    have qa3 := same_new (H := ha2) (o := (.tup [.bl true, .int s])) na3
    have fa3 := upd_same (H := ha2) (a := a3) (o := (.tup [.bl true, .int s]))
    revert qa3 fa3
    generalize upd ha2 a3 ((.tup [.bl true, .int s])) = ha3
    intro qa3 fa3
    refine ⟨_, rfl, (by show 2 ≤ sizeLine; decide), fun a4 na4 => ?_⟩
    have qa4 := same_new (H := ha3) (o := (.tup [.int f, .bl true])) na4
    have fa4 := upd_same (H := ha3) (a := a4) (o := (.tup [.int f, .bl true]))
    revert qa4 fa4
    generalize upd ha3 a4 ((.tup [.int f, .bl true])) = ha4
    intro qa4 fa4
    refine ⟨_, rfl, (by show 2 ≤ sizeLine; decide), fun a5 na5 => ?_⟩
    have qa5 := same_new (H := ha4) (o := (.tup [.non, .int s])) na5
    have fa5 := upd_same (H := ha4) (a := a5) (o := (.tup [.non, .int s]))
    revert qa5 fa5
    generalize upd ha4 a5 ((.tup [.non, .int s])) = ha5
    intro qa5 fa5
    refine ⟨_, rfl, _, rfl, s, rfl, (by show 2 ≤ sizeLine; decide), fun a6 na6 => ?_⟩
    have qa6 := same_new (H := ha5) (o := (.tup [.int f, .int (-s)])) na6
    have fa6 := upd_same (H := ha5) (a := a6) (o := (.tup [.int f, .int (-s)]))
    revert qa6 fa6
    generalize upd ha5 a6 ((.tup [.int f, .int (-s)])) = ha6
    intro qa6 fa6
    refine ⟨(by show 7 ≤ sizeLine; decide), fun l1 nl1 => ?_⟩
    have ql1 := same_new (H := ha6) (o := (.lst [.ref a0, .ref a1, .ref a2, .ref a3, .ref a4, .ref a5, .ref a6])) nl1
    have fl1 := upd_same (H := ha6) (a := l1) (o := (.lst [.ref a0, .ref a1, .ref a2, .ref a3, .ref a4, .ref a5, .ref a6]))
    revert ql1 fl1
    generalize upd ha6 l1 ((.lst [.ref a0, .ref a1, .ref a2, .ref a3, .ref a4, .ref a5, .ref a6])) = hl1
    intro ql1 fl1
    refine name_step (σ' := [some (.ref t), some (.int f), some (.int s), some (.ref l1)]) rfl ?_
    have ht := ql1 _ _ (qa6 _ _ (qa5 _ _ (qa4 _ _ (qa3 _ _ (qa2 _ _ (qa1 _ _ (qa0 _ _ ht)))))))
    refine ⟨_, rfl, _, rfl, (by show 1 ≤ sizeLine; decide), fun b0 nb0 => ?_⟩
    have qb0 := same_new (H := hl1) (o := .tup [.int 1]) nb0
    have fb0 := upd_same (H := hl1) (a := b0) (o := .tup [.int 1])
    revert qb0 fb0
    generalize upd hl1 b0 (.tup [.int 1]) = hb0
    intro qb0 fb0
    refine ⟨t, b0, _, _, rfl, rfl, SqT.of (qb0 _ _ ht), SqT.of fb0, nofun, (by show 3 ≤ sizeLine; decide), nofun, fun _ b1 nb1 => ?_⟩
    have qb1 := same_new (H := hb0) (o := .tup ([.int f, .int s] ++ [.int 1])) nb1
    have fb1 := upd_same (H := hb0) (a := b1) (o := .tup ([.int f, .int s] ++ [.int 1]))
    revert qb1 fb1
    generalize upd hb0 b1 (.tup ([.int f, .int s] ++ [.int 1])) = hb1
    intro qb1 fb1
    refine ⟨_, rfl, (by show 1 ≤ sizeLine; decide), fun b2 nb2 => ?_⟩
    have qb2 := same_new (H := hb1) (o := (.tup [.int f])) nb2
    have fb2 := upd_same (H := hb1) (a := b2) (o := (.tup [.int f]))
    revert qb2 fb2
    generalize upd hb1 b2 ((.tup [.int f])) = hb2
    intro qb2 fb2
    refine ⟨_, rfl, f, rfl, ?_, _, rfl, (by show 2 ≤ sizeLine; decide), fun b3 nb3 => ?_⟩
    · rcases Nat.eq_zero_or_pos f.natAbs with z | z
      · rw [z]
        decide
      · rw [Nat.log2_lt (Nat.ne_of_gt z)]
        exact Nat.lt_trans f40 (by decide +kernel)
    have qb3 := same_new (H := hb2) (o := .tup [.str (Str.ofString (toString f)), .int s]) nb3
    have fb3 := upd_same (H := hb2) (a := b3) (o := .tup [.str (Str.ofString (toString f)), .int s])
    revert qb3 fb3
    generalize upd hb2 b3 (.tup [.str (Str.ofString (toString f)), .int s]) = hb3
    intro qb3 fb3
    refine ⟨_, rfl, (by show 2 ≤ sizeLine; decide), fun b4 nb4 => ?_⟩
    have qb4 := same_new (H := hb3) (o := (.tup [.int f, .non])) nb4
    have fb4 := upd_same (H := hb3) (a := b4) (o := (.tup [.int f, .non]))
    revert qb4 fb4
    generalize upd hb3 b4 ((.tup [.int f, .non])) = hb4
    intro qb4 fb4
    refine ⟨(by show 4 ≤ sizeLine; decide), fun l2 nl2 => ?_⟩
    have ql2 := same_new (H := hb4) (o := (.lst [.ref b1, .ref b2, .ref b3, .ref b4])) nl2
    have fl2 := upd_same (H := hb4) (a := l2) (o := (.lst [.ref b1, .ref b2, .ref b3, .ref b4]))
    revert ql2 fl2
    generalize upd hb4 l2 ((.lst [.ref b1, .ref b2, .ref b3, .ref b4])) = hl2
    intro ql2 fl2
    refine ⟨l1, l2, _, _, rfl, rfl, ql2 _ _ (qb4 _ _ (qb3 _ _ (qb2 _ _ (qb1 _ _ (qb0 _ _ fl1))))), fl2, (by show 11 ≤ sizeLine; decide), fun p np => ?_⟩
    have qp := same_new (H := hl2) (o := .lst ([.ref a0, .ref a1, .ref a2, .ref a3, .ref a4, .ref a5, .ref a6] ++ [.ref b1, .ref b2, .ref b3, .ref b4])) np
    have sq := (((((((((((((qa0.trans qa1).trans qa2).trans qa3).trans qa4).trans qa5).trans qa6).trans ql1).trans qb0).trans qb1).trans qb2).trans qb3).trans qb4).trans ql2)
    have np0 : H p = none := by
      cases e : H p with
      | none => rfl
      | some o => exact nomatch np.symm.trans (sq _ _ e)
    exact k p _ _ (sq.trans qp) np0 upd_same ((ptsC ⟨_, .lst (newO_at na0 (qp _ _ (ql2 _ _ (qb4 _ _ (qb3 _ _ (qb2 _ _ (qb1 _ _ (qb0 _ _ (ql1 _ _ (qa6 _ _ (qa5 _ _ (qa4 _ _ (qa3 _ _ (qa2 _ _ (qa1 _ _ fa0))))))))))))))) (.cons (.int _) (.cons (.int _) .nil)), fit_lst (smC (sm_int f40) (smC (sm_int (i := s) (by omega)) smN)) (by show 2 ≤ 200; decide)⟩ 
      (ptsC ⟨_, .tup (newO_at (free_of qa0 na1) (qp _ _ (ql2 _ _ (qb4 _ _ (qb3 _ _ (qb2 _ _ (qb1 _ _ (qb0 _ _ (ql1 _ _ (qa6 _ _ (qa5 _ _ (qa4 _ _ (qa3 _ _ (qa2 _ _ fa1)))))))))))))) (.cons (.int _) (.cons (.int _) .nil)), fit_tup (smC (sm_int f40) (smC (sm_int (i := 0) (by decide)) smN)) (by show 2 ≤ 200; decide)⟩ 
      (ptsC ⟨_, .tup (newO_at (free_of (qa0.trans qa1) na2) (qp _ _ (ql2 _ _ (qb4 _ _ (qb3 _ _ (qb2 _ _ (qb1 _ _ (qb0 _ _ (ql1 _ _ (qa6 _ _ (qa5 _ _ (qa4 _ _ (qa3 _ _ fa2))))))))))))) (.cons (.int _) (.cons (.int _) .nil)), fit_tup (smC (sm_int f40) (smC (sm_int (i := 61) (by decide)) smN)) (by show 2 ≤ 200; decide)⟩ 
      (ptsC ⟨_, .tup (newO_at (free_of ((qa0.trans qa1).trans qa2) na3) (qp _ _ (ql2 _ _ (qb4 _ _ (qb3 _ _ (qb2 _ _ (qb1 _ _ (qb0 _ _ (ql1 _ _ (qa6 _ _ (qa5 _ _ (qa4 _ _ fa3)))))))))))) (.cons (.bl _) (.cons (.int _) .nil)), fit_tup (smC (sm_bool _) (smC (sm_int (i := s) (by omega)) smN)) (by show 2 ≤ 200; decide)⟩ 
      (ptsC ⟨_, .tup (newO_at (free_of (((qa0.trans qa1).trans qa2).trans qa3) na4) (qp _ _ (ql2 _ _ (qb4 _ _ (qb3 _ _ (qb2 _ _ (qb1 _ _ (qb0 _ _ (ql1 _ _ (qa6 _ _ (qa5 _ _ fa4))))))))))) (.cons (.int _) (.cons (.bl _) .nil)), fit_tup (smC (sm_int f40) (smC (sm_bool _) smN)) (by show 2 ≤ 200; decide)⟩ 
      (ptsC ⟨_, .tup (newO_at (free_of ((((qa0.trans qa1).trans qa2).trans qa3).trans qa4) na5) (qp _ _ (ql2 _ _ (qb4 _ _ (qb3 _ _ (qb2 _ _ (qb1 _ _ (qb0 _ _ (ql1 _ _ (qa6 _ _ fa5)))))))))) (.cons .non (.cons (.int _) .nil)), fit_tup (smC sm_none (smC (sm_int (i := s) (by omega)) smN)) (by show 2 ≤ 200; decide)⟩ 
      (ptsC ⟨_, .tup (newO_at (free_of (((((qa0.trans qa1).trans qa2).trans qa3).trans qa4).trans qa5) na6) (qp _ _ (ql2 _ _ (qb4 _ _ (qb3 _ _ (qb2 _ _ (qb1 _ _ (qb0 _ _ (ql1 _ _ fa6))))))))) (.cons (.int _) (.cons (.int _) .nil)), fit_tup (smC (sm_int f40) (smC (sm_int (i := -s) (by omega)) smN)) (by show 2 ≤ 200; decide)⟩ 
      (ptsC ⟨_, .tup (newO_at (free_of ((((((((qa0.trans qa1).trans qa2).trans qa3).trans qa4).trans qa5).trans qa6).trans ql1).trans qb0) nb1) (qp _ _ (ql2 _ _ (qb4 _ _ (qb3 _ _ (qb2 _ _ fb1)))))) (.cons (.int _) (.cons (.int _) (.cons (.int _) .nil))), fit_tup (smC (sm_int f40) (smC (sm_int (i := s) (by omega)) (smC (sm_int (i := 1) (by decide)) smN))) (by show 3 ≤ 200; decide)⟩ 
      (ptsC ⟨_, .tup (newO_at (free_of (((((((((qa0.trans qa1).trans qa2).trans qa3).trans qa4).trans qa5).trans qa6).trans ql1).trans qb0).trans qb1) nb2) (qp _ _ (ql2 _ _ (qb4 _ _ (qb3 _ _ fb2))))) (.cons (.int _) .nil), fit_tup (smC (sm_int f40) smN) (by show 1 ≤ 200; decide)⟩ 
      (ptsC ⟨_, .tup (newO_at (free_of ((((((((((qa0.trans qa1).trans qa2).trans qa3).trans qa4).trans qa5).trans qa6).trans ql1).trans qb0).trans qb1).trans qb2) nb3) (qp _ _ (ql2 _ _ (qb4 _ _ fb3)))) (.cons (.str _) (.cons (.int _) .nil)), fit_tup (smC (sm_text f40) (smC (sm_int (i := s) (by omega)) smN)) (by show 2 ≤ 200; decide)⟩ 
      (ptsC ⟨_, .tup (newO_at (free_of (((((((((((qa0.trans qa1).trans qa2).trans qa3).trans qa4).trans qa5).trans qa6).trans ql1).trans qb0).trans qb1).trans qb2).trans qb3) nb4) (qp _ _ (ql2 _ _ fb4))) (.cons (.int _) (.cons .non .nil)), fit_tup (smC (sm_int f40) (smC sm_none smN)) (by show 2 ≤ 200; decide)⟩  ptsN)))))))))))) rfl
end
end L15
namespace L15
open PySem PySem.Spec L2 Rt Rs Ld
open PyProof.Rows hiding St
open LamX

theorem st_step {f : L2.St → Hp → Prop} {σ σ' : L2.St} {H : Hp} (h : σ = σ') (k : f σ' H) : f σ H := by
  subst h
  exact k
theorem le1000 {n : Nat} (h : n ≤ 1000) : n ≤ sizeLine := Nat.le_of_lt (small1000 h)
theorem refs_snoc (qs : List Addr) (q : Addr) : qs.map V.ref ++ [V.ref q] = (qs ++ [q]).map V.ref := by rw [List.map_append]; rfl
theorem mask_none {d c b : Addr} {H : Hp} (n : H b = none) : mask d c H b = none := by
  unfold mask
  split
  · rfl
  · exact n
/-- what stands all through -/
structure NB (M : Hp) (sd ed rd : Addr) (od : V) (L : LP) (ks : List Int) : Prop where
  st : M sd = some (.tup [.int L.f, .int L.s])
  et : M ed = some (.tup [.int L.g, .int L.r])
  rw_ : M rd = some (.lst (ks.map V.int))
  od : Ov M od
structure NL (L : LP) (ks : List Int) : Prop where
  s0 : 0 < L.s
  s60 : L.s ≤ 60
  r0 : 0 < L.r
  r60 : L.r ≤ 60
  n0 : 0 < L.n
  n60 : L.n ≤ 60
  f31 : L.f.natAbs < 10 ^ 31
  g31 : L.g.natAbs < 10 ^ 31
  pos : 0 < ks.length
  len : ks.length ≤ 60
  sm : ∀ z, z ∈ ks → z.natAbs ≤ 5000
section
variable {M M' : Hp} {sd ed rd : Addr} {od : V} {L : LP} {ks : List Int}
theorem NB.same (h : NB M sd ed rd od L ks) (s : Same M M') : NB M' sd ed rd od L ks := ⟨s _ _ h.st, s _ _ h.et, s _ _ h.rw_, h.od.same s⟩
theorem NB.ps (h : NB M sd ed rd od L ks) (l : NL L ks) : Pt M (.ref sd) := pt_tup h.st (fun x m => by
  have b := l.f31; have a := l.s0; have c := l.s60
  rcases List.mem_cons.mp m with rfl | m
  · exact it_int (by omega)
  · cases List.mem_singleton.mp m
    exact it_int (by omega)) (by show 2 ≤ 200; decide)
theorem NB.pe (h : NB M sd ed rd od L ks) (l : NL L ks) : Pt M (.ref ed) := pt_tup h.et (fun x m => by
  have b := l.g31; have a := l.r0; have c := l.r60
  rcases List.mem_cons.mp m with rfl | m
  · exact it_int (by omega)
  · cases List.mem_singleton.mp m
    exact it_int (by omega)) (by show 2 ≤ 200; decide)
theorem NB.pp (h : NB M sd ed rd od L ks) (l : NL L ks) : Pt M (.int L.n) := pt_int (by have := l.n0; have := l.n60; omega)
theorem NL.its (l : NL L ks) : ∀ x, x ∈ ks.map V.int → It M x := fun x m => by
  obtain ⟨z, hz, rfl⟩ := List.mem_map.mp m
  have := l.sm z hz
  exact it_int (by omega)
theorem NB.pr (h : NB M sd ed rd od L ks) (l : NL L ks) : Pt M (.ref rd) := pt_lst h.rw_ l.its (by rw [List.length_map]; have := l.len; omega)
end
def InvC (H3 M3 : Hp) (D : Addr) (qs : List Addr) (H4 : Hp) : Prop := Same H3 H4 ∧ H4 D = some (.lst (qs.map V.ref)) ∧ ∀ q, q ∈ qs → ∃ b e p r, H4 q = some (.tup [b, e, p, r]) ∧ Pt M3 b ∧ Pt M3 e ∧ Pt M3 p ∧ Pt M3 r
theorem InvC.nil {H3 M3 : Hp} {D : Addr} (n : H3 D = none) : InvC H3 M3 D [] (upd H3 D (.lst [])) := ⟨same_new n, upd_same, fun q h => nomatch h⟩
theorem InvC.step {H3 M3 H4 : Hp} {D q : Addr} {qs : List Addr} {b e p r : V} (h : InvC H3 M3 D qs H4) (nD : H3 D = none) (nq : H4 q = none) (pb : Pt M3 b) (pe : Pt M3 e) (pp : Pt M3 p) (pr : Pt M3 r) :
    (upd H4 q (.tup [b, e, p, r])) D = some (.lst (qs.map V.ref)) ∧ InvC H3 M3 D (qs ++ [q]) (upd (upd H4 q (.tup [b, e, p, r])) D (.lst (qs.map V.ref ++ [V.ref q]))) := by
  obtain ⟨s, hD, cs⟩ := h
  have qD : D ≠ q := ne_of_none hD nq
  refine ⟨by rw [upd_ne qD]; exact hD, ⟨fun b' o z => ?_, by rw [upd_same, List.map_append]; rfl, fun q' m => ?_⟩⟩
  · rw [upd_ne (ne_of_none z nD)]
    exact same_new nq _ _ (s _ _ z)
  · rcases List.mem_append.mp m with m | m
    · obtain ⟨b', e', p', r', h1, h2⟩ := cs q' m
      refine ⟨b', e', p', r', ?_, h2⟩
      rw [upd_ne (ne_of h1 hD (by intro z; cases z)), upd_ne (ne_of_none h1 nq)]
      exact h1
    · cases List.mem_singleton.mp m
      exact ⟨b, e, p, r, by rw [upd_ne qD.symm, upd_same], pb, pe, pp, pr⟩
theorem InvC.end_ {H3 H4 : Hp} {D d c : Addr} {qs : List Addr} (h : InvC H3 (mask d c H3) D qs H4) (S : Src H3 d c) : Cands (mask d c H4) qs := fun q m => by
  obtain ⟨s, hD, cs⟩ := h
  obtain ⟨b, e, p, r, h1, h2, h3, h4, h5⟩ := cs q m
  have up := sub_same (d := d) (c := c) s
  exact ⟨b, e, p, r, mask_at ((S.same s).nd h1) h1, h2.same up, h3.same up, h4.same up, h5.same up⟩
theorem InvC.endH {H3 H4 : Hp} {D d c : Addr} {qs : List Addr} (h : InvC H3 (mask d c H3) D qs H4) (S : Src H3 d c) (nD : H3 D = none) : Cands (hide D (mask d c H4)) qs := fun q m => by
  obtain ⟨s, hD, cs⟩ := h
  obtain ⟨b, e, p, r, h1, h2, h3, h4, h5⟩ := cs q m
  have up : Same (mask d c H3) (hide D (mask d c H4)) := hide_in (mask_none nD) (sub_same (d := d) (c := c) s)
  exact ⟨b, e, p, r, hide_at (ne_of h1 hD (by intro z; cases z)) (mask_at ((S.same s).nd h1) h1), h2.same up, h3.same up, h4.same up, h5.same up⟩
theorem hide_mono {p : Addr} {M M' : Hp} (s : Same M M') : Same (hide p M) (hide p M') := hide_up (Sbut.of s)
theorem hide_none {p b : Addr} {M : Hp} (h : M b = none) : hide p M b = none := by
  unfold hide
  split
  · rfl
  · exact h
theorem hide_but {p D : Addr} {M M' : Hp} (s : Sbut D M M') : Sbut D (hide p M) (hide p M') := fun b u e n => by
  unfold hide at e ⊢
  split at e
  · cases e
  · rename_i z
    rw [if_neg z]
    exact s b u e n
theorem src_but {H H' : Hp} {d c L : Addr} (S : Src H d c) (b : Sbut L H H') (n : L ≠ d ∧ L ≠ c) : Src H' d c := by
  obtain ⟨ks, l, m, t, q1, q2⟩ := S.ex
  exact ⟨ks, l, m, t, b _ _ q1 n.1.symm, b _ _ q2 n.2.symm⟩
theorem keep_but {H H1 H2 : Hp} {d c L : Addr} (k : Keep d c H H1) (b : Sbut L H1 H2) (n : H L = none) : Keep d c H H2 := fun x o e n1 n2 => b _ _ (k _ _ e n1 n2) (ne_of_none e n)
theorem log_ok {i : Int} (h : i.natAbs ≤ 5000) : i.natAbs.log2 < 1920 := by
  rcases Nat.eq_zero_or_pos i.natAbs with z | z
  · rw [z]
    decide
  · rw [Nat.log2_lt (Nat.ne_of_gt z)]
    exact Nat.lt_of_le_of_lt h (by decide +kernel)
theorem row_its {M : Hp} {ks : List Int} {A B : List V} {y : V} (h : ∀ x, x ∈ ks.map V.int → It M x) (hy : It M y) (a : ∀ x, x ∈ A → x ∈ ks.map V.int) (b : ∀ x, x ∈ B → x ∈ ks.map V.int) : ∀ x, x ∈ A ++ [y] ++ B → It M x := fun x m => by
  rcases List.mem_append.mp m with m | m
  · rcases List.mem_append.mp m with m | m
    · exact h x (a x m)
    · cases List.mem_singleton.mp m
      exact hy
  · exact h x (b x m)
theorem cand_put {H1 : Hp} {L q d c : Addr} {qs : List Addr} {xs : List V} {b e p r : V} {o : HO} (S1 : Src H1 d c) (hL : H1 L = some (.lst xs)) (cs : Cands (hide L (mask d c H1)) qs) (nq : H1 q = none)
    (pb : Pt (hide L (mask d c H1)) b) (pe : Pt (hide L (mask d c H1)) e) (pp : Pt (hide L (mask d c H1)) p) (pr : Pt (hide L (mask d c H1)) r) : Cands (hide L (mask d c (upd (upd H1 q (.tup [b, e, p, r])) L o))) (qs ++ [q]) := by
  have up : Same (hide L (mask d c H1)) (hide L (mask d c (upd (upd H1 q (.tup [b, e, p, r])) L o))) := hide_up ((Sbut.of (mask_new nq)).trans mask_but)
  have qL : q ≠ L := (ne_of_none hL nq).symm
  refine candsA (cs.same up) fun q' m => ?_
  cases List.mem_singleton.mp m
  refine ⟨b, e, p, r, hide_at qL (mask_at (S1.away nq) ?_), pb.same up, pe.same up, pp.same up, pr.same up⟩
  rw [upd_ne qL, upd_same]
def spNear (C : Addr) : Sp := fun vs H Q _ => ∃ (d c D : Addr) (L : LP) (F : Int → Int), vs = [.ref d, .ref D] ∧ Src H d c ∧ DM (mask d c H) C D L F ∧ NL L (rowOf L F) ∧
  ∀ p qs H', Src H' d c → Keep d c H H' → H' p = some (.lst (qs.map V.ref)) → Cands (mask d c H') qs → qs.length ≤ 100 → Q (.ref p) H'
section
variable {P : Program} {w : World} {K : PySem.W.Frag} {mg : Str → Option Value} {base : Heap} {f C : Addr} {fd : FuncData}

theorem scNear : FnScope ["source", "lead", "start", "end", "period", "row", "k", "odd", "found", "lap", "late", "other", "some", "part"] ["source", "lead"] (defScope sNear) := ⟨rfl, rfl, rfl, by decide +kernel, rfl, by decide +kernel, by decide +kernel⟩
theorem ok_near (F : Fun K "_law_near" "_law_near" sNear f fd) (T : Wds mg) (zstr : mg "str" = none) (cP : Cb P w K mg base 1 "_law_pick" spPick) (cO : Cb P w K mg base 2 "_law_of" spOf) (cOd : Cb P w K mg base 3 "_law_odd" spOdd) (cB : Cb P w K mg base 1 "_law_bent_clocks" spBent) : FnG P w K mg base 4 f fd ["source", "lead"] (spNear C) := by
  refine okG F scNear (fun vs H Q E h => ?_) (fun cdv A outer s H vs Q E hg hr h => ?_)
  · obtain ⟨d, c, D, L, F, rfl, _⟩ := h
    rfl
  · obtain ⟨d, c, D, L, F, rfl, S, dm, nl, k⟩ := h
    have hu := hu_of hr
    refine ⟨_, (pss_cons (ps_asg (pe_tup (pa_cons (pe_dget hu (pv 1) pe_str (fun _ _ => rfl)) (pa_cons (pe_dget hu (pv 1) pe_str (fun _ _ => rfl)) (pa_cons (pe_dget hu (pv 1) pe_str (fun _ _ => rfl)) (pa_cons (pe_dget hu (pv 1) pe_str (fun _ _ => rfl)) pa_nil))))) (pg_tup (by rfl) (pgs_cons (pg_name (i := 2) scNear.nd rfl (.inr rfl)) (pgs_cons (pg_name (i := 3) scNear.nd rfl (.inr rfl)) (pgs_cons (pg_name (i := 4) scNear.nd rfl (.inr rfl)) (pgs_cons (pg_name (i := 5) scNear.nd rfl (.inr rfl)) pgs_nil))))))
      (pss_cons (ps_par (i := 6) (j := 7) rfl scNear.nd rfl rfl (by decide) rfl rfl (pa_cons (pe_k cP hg hr (by decide) (by rfl) (pa_cons (pv 0) (pa_cons (pe_callB call_len_seq (by rfl) T.zlen (by decide +kernel) (pa_cons (pv 5) pa_nil)) pa_nil))) (pa_cons (pe_k cOd hg hr (by decide) (by rfl) (pa_cons (pv 0) pa_nil)) pa_nil)) (by rfl))
      (pss_cons (ps_setLc (i := 8) (own := [("some", 12)]) rfl scNear.nd rfl rfl (sw_true rfl rfl rfl (by decide +kernel)) (pi_list (pe_op op_cat (pe_k cB hg hr (by decide) (by rfl) (pa_cons (pv 2) pa_nil)) (pe_lst (pa_cons (pv 7) pa_nil)))) (blkOk_by (N := ["source", "lead", "start", "end", "period", "row", "k", "odd", "found", "lap", "late", "other", "some", "part"]) (sc := defScope sNear) (by decide +kernel)) (fun _ _ _ _ _ => (pg_name (i := 12) scNear.nd rfl (.inl rfl))) (fun _ _ _ _ _ => pts_nil) (fun _ _ _ _ _ => (pe_tup (pa_cons (pv 12) (pa_cons (pv 3) (pa_cons (pv 4) (pa_cons (pv 5) pa_nil)))))))
      (pss_cons (ps_for PassesOwn.never rfl (pi_range1 (by rfl) T.zrange (pa_cons pe_int pa_nil)) (pg_name (i := 9) scNear.nd rfl (.inl rfl))
        (pss_cons (ps_setLc (i := 10) (own := [("part", 13)]) rfl scNear.nd rfl rfl (sw_true rfl rfl rfl (by decide +kernel)) (pi_tup (pe_tup (pa_cons (pv 2) (pa_cons (pv 3) (pa_cons (pv 4) pa_nil))))) (blkOk_by (N := ["source", "lead", "start", "end", "period", "row", "k", "odd", "found", "lap", "late", "other", "some", "part"]) (sc := defScope sNear) (by decide +kernel)) (fun _ _ _ _ _ => (pg_name (i := 13) scNear.nd rfl (.inl rfl))) (fun _ _ _ _ _ => pts_nil) (fun _ _ _ _ _ => (pe_k cO hg hr (by decide) (by rfl) (pa_cons (pv 0) (pa_cons (pe_lst (pa_cons (pv 13) (pa_cons (pe_k cOd hg hr (by decide) (by rfl) (pa_cons (pv 0) pa_nil)) pa_nil))) pa_nil)))))
        (pss_one (ps_expr (pe_bm PySem.F.plainAttrs_list PySem.F.slot_list_append PySem.F.type_list_append mt_append (pv 8) (pa_cons (pe_tup (pa_cons (pe_ix ix_list (pv 10) pe_int (fun _ _ => rfl)) (pa_cons (pe_ix ix_list (pv 10) pe_int (fun _ _ => rfl)) (pa_cons (pe_ix ix_list (pv 10) pe_int (fun _ _ => rfl)) (pa_cons (pe_k cO hg hr (by decide) (by rfl) (pa_cons (pv 0) (pa_cons (pe_lst (pa_cons (pv 5) (pa_cons (pe_k cOd hg hr (by decide) (by rfl) (pa_cons (pv 0) pa_nil)) pa_nil))) pa_nil))) pa_nil))))) pa_nil))))))
      (pss_cons (ps_set (i := 8) scNear.nd rfl (.inl rfl) (pe_op op_cat (pv 8) (pe_lc (own := [("some", 12)]) (by rfl) scNear.nd (pi_list (pe_op op_cat (pe_k cB hg hr (by decide) (by rfl) (pa_cons (pv 3) pa_nil)) (pe_lst (pa_cons (pv 7) pa_nil)))) (blkOk_by (N := ["source", "lead", "start", "end", "period", "row", "k", "odd", "found", "lap", "late", "other", "some", "part"]) (sc := defScope sNear) (by decide +kernel)) (fun _ _ _ _ _ => (pg_name (i := 12) scNear.nd rfl (.inl rfl))) (fun _ _ _ _ _ => pts_nil) (fun _ _ _ _ _ => (pe_tup (pa_cons (pv 2) (pa_cons (pv 12) (pa_cons (pv 4) (pa_cons (pv 5) pa_nil)))))))))
      (pss_cons (ps_set (i := 8) scNear.nd rfl (.inl rfl) (pe_op op_cat (pv 8) (pe_lc (own := [("some", 12)]) (by rfl) scNear.nd (pi_list (pe_lst (pa_cons (pe_op op_mul pe_int (pv 4)) (pa_cons pe_int (pa_cons (pe_un un_neg (pv 4)) (pa_cons (pe_op op_add (pv 4) pe_int) (pa_cons pe_bl (pa_cons pe_non (pa_cons (pv 7) pa_nil))))))))) (blkOk_by (N := ["source", "lead", "start", "end", "period", "row", "k", "odd", "found", "lap", "late", "other", "some", "part"]) (sc := defScope sNear) (by decide +kernel)) (fun _ _ _ _ _ => (pg_name (i := 12) scNear.nd rfl (.inl rfl))) (fun _ _ _ _ _ => pts_nil) (fun _ _ _ _ _ => (pe_tup (pa_cons (pv 2) (pa_cons (pv 3) (pa_cons (pv 12) (pa_cons (pv 5) pa_nil)))))))))
      (pss_cons (ps_for PassesOwn.never rfl (pi_list (pe_lst (pa_cons (pe_op op_add (pe_ix ix_list (pv 5) (pv 6) (fun _ _ => rfl)) (pe_ix ix_tup (pv 3) pe_int (fun _ _ => rfl))) (pa_cons (pe_op op_sub (pe_ix ix_list (pv 5) (pv 6) (fun _ _ => rfl)) (pe_ix ix_tup (pv 3) pe_int (fun _ _ => rfl))) (pa_cons (pe_op op_add (pe_ix ix_list (pv 5) (pv 6) (fun _ _ => rfl)) pe_int) (pa_cons (pe_op op_add (pe_op op_add (pe_ix ix_list (pv 5) pe_int (fun _ _ => rfl)) (pv 4)) (pe_ix ix_tup (pv 3) pe_int (fun _ _ => rfl))) (pa_cons (pv 7) (pa_cons pe_bl (pa_cons (pe_callTy call_str_int (by rfl) zstr (by decide +kernel) (pa_cons (pe_ix ix_list (pv 5) (pv 6) (fun _ _ => rfl)) pa_nil)) pa_nil))))))))) (pg_name (i := 11) scNear.nd rfl (.inl rfl))
        (pss_cons (ps_expr (pe_bm PySem.F.plainAttrs_list PySem.F.slot_list_append PySem.F.type_list_append mt_append (pv 8) (pa_cons (pe_tup (pa_cons (pv 2) (pa_cons (pv 3) (pa_cons (pv 4) (pa_cons (pe_op op_cat (pe_op op_cat (pe_slice sl_list (pv 5) po_none (po_some (pv 6))) (pe_lst (pa_cons (pv 11) pa_nil))) (pe_slice sl_list (pv 5) (po_some (pe_op op_add (pv 6) pe_int)) po_none)) pa_nil))))) pa_nil)))
        (pss_one (ps_expr (pe_bm PySem.F.plainAttrs_list PySem.F.slot_list_append PySem.F.type_list_append mt_append (pv 8) (pa_cons (pe_tup (pa_cons (pv 2) (pa_cons (pv 3) (pa_cons (pv 4) (pa_cons (pe_op op_cat (pe_op op_cat (pe_slice sl_list (pe_revL (pv 5)) po_none (po_some (pv 6))) (pe_lst (pa_cons (pv 11) pa_nil))) (pe_slice sl_list (pe_revL (pv 5)) (po_some (pe_op op_add (pv 6) pe_int)) po_none)) pa_nil))))) pa_nil))))))
      (pss_one (ps_ret (pe_op op_cat (pv 8) (pe_lc (own := [("some", 12)]) (by rfl) scNear.nd (pi_list (pe_lst (pa_cons (pe_callTy call_tuple_of (by rfl) T.ztuple (by decide +kernel) (pa_cons (pv 5) pa_nil)) (pa_cons (pe_slice sl_list (pv 5) po_none (po_some (pe_un un_neg pe_int))) (pa_cons (pe_op op_cat (pv 5) (pe_slice sl_list (pv 5) (po_some (pe_un un_neg pe_int)) po_none)) (pa_cons (pe_revL (pv 5)) (pa_cons pe_non (pa_cons (pv 7) pa_nil)))))))) (blkOk_by (N := ["source", "lead", "start", "end", "period", "row", "k", "odd", "found", "lap", "late", "other", "some", "part"]) (sc := defScope sNear) (by decide +kernel)) (fun _ _ _ _ _ => (pg_name (i := 12) scNear.nd rfl (.inl rfl))) (fun _ _ _ _ _ => pts_nil) (fun _ _ _ _ _ => (pe_tup (pa_cons (pv 2) (pa_cons (pv 3) (pa_cons (pv 4) (pa_cons (pv 12) pa_nil))))))))))))))))), ?_⟩
    obtain ⟨sd, ed, rd, x, m0, m1, m2, m3, _⟩ := dm.ex
    generalize hks : rowOf L F = ks at nl m3
    have hD := mask_same _ _ m0
    refine ⟨_, rfl, D, _, rfl, dgetK hD w_start, _, rfl, D, _, rfl, dgetK hD w_end, _, rfl, D, _, rfl, dgetK hD w_period, _, rfl, D, _, rfl, dgetK hD w_row, (by show 4 ≤ sizeLine; decide), fun t1 nt1 => ?_⟩
    refine ⟨t1, _, rfl, SqT.of upd_same, rfl, _, _, rfl, _, _, rfl, _, _, rfl, _, _, rfl, rfl, ?_⟩
    have S1 := S.new (o := .tup [.ref sd, .ref ed, .int L.n, .ref rd]) nt1
    have k1 := Keep.refl.new (d := d) (c := c) (o := .tup [.ref sd, .ref ed, .int L.n, .ref rd]) nt1
    revert S1 k1
    generalize upd H t1 (.tup [.ref sd, .ref ed, .int L.n, .ref rd]) = H1
    intro S1 k1
    refine st_step (σ' := [some (.ref d), some (.ref D), some (.ref sd), some (.ref ed), some (.int L.n), some (.ref rd), none, none, none, none, none, none, none, none]) rfl ?_
    have g1 := mask_keep k1
    have m1 := g1 _ _ m1
    have m2 := g1 _ _ m2
    have m3 := g1 _ _ m3
    clear m0 hD dm nt1 g1
    have klen := nl.len
    have kpos := nl.pos
    -- k, odd
    refine ⟨_, rfl, _, rfl, rd, _, rfl, .inl (SqL.of (mask_same _ _ m3)), d, c, _, rfl, S1, by rw [List.length_map]; omega, fun kk H2 r0 r1 S2 k2 => ?_⟩
    obtain ⟨kn, rfl⟩ : ∃ kn : Nat, kk = (kn : Int) := ⟨kk.toNat, (Int.toNat_of_nonneg r0).symm⟩
    have hk : kn < ks.length := by rw [List.length_map] at r1; omega
    refine ⟨_, rfl, d, c, rfl, S2, fun od H3 hov S3 k3 => ?_⟩
    refine ⟨_, _, rfl, ?_⟩
    refine st_step (σ' := [some (.ref d), some (.ref D), some (.ref sd), some (.ref ed), some (.int L.n), some (.ref rd), some (.int (kn : Nat)), some od, none, none, none, none, none, none]) rfl ?_
    have g3 := mask_keep (k2.trans k3)
    have nb : NB (mask d c H3) sd ed rd od L ks := ⟨g3 _ _ m1, g3 _ _ m2, g3 _ _ m3, hov.same newO_same⟩
    have K3 := (k1.trans k2).trans k3
    clear m1 m2 m3 hov g3 k1 k2 k3 S1 S2 r0 r1
    -- found, by bent starts
    have f31 := nl.f31
    have g31 := nl.g31
    refine ⟨_, rfl, sd, L.f, L.s, rfl, mask_same _ _ nb.st, nl.s0, nl.s60, by omega, fun bl xs H4 q4 nbl hbl pts lx => ?_⟩
    have S4 := S3.same q4
    have pts := pts.same (newO_mask S3)
    refine ⟨_, rfl, (by show 1 ≤ sizeLine; decide), fun l1 nl1 => ?_⟩
    have q5 := same_new (o := .lst [od]) nl1
    have fl1 := upd_same (H := H4) (a := l1) (o := .lst [od])
    refine ⟨bl, l1, xs, [od], rfl, rfl, q5 _ _ hbl, fl1, by rw [lx]; show 12 ≤ sizeLine; decide, fun l2 nl2 => ?_⟩
    have q6 := q5.trans (same_new (o := .lst (xs ++ [od])) nl2)
    have fl2 := upd_same (H := upd H4 l1 (.lst [od])) (a := l2) (o := .lst (xs ++ [od]))
    revert q6 fl2
    generalize upd (upd H4 l1 (.lst [od])) l2 (.lst (xs ++ [od])) = H6
    intro q6 fl2
    have q46 := q4.trans q6
    have S6 := S3.same q46
    have nb := nb.same (sub_same q46)
    have px : Pts (mask d c H6) (xs ++ [od]) := ptsA (pts.same (sub_same q6)) (ptsC nb.od.pt ptsN)
    have K6 := K3.trans (Keep.of q46)
    clear q46 q6 q5 fl1 nl1 nl2 pts hbl nbl q4 S4 S3 K3
    refine ⟨l2, rfl, ⟨_, SqL.of fl2⟩, fun D3 nD3 => ?_⟩
    refine lc_it walk_list (fun i H7 => ∃ qs : List Addr, qs.length = i ∧ InvC H6 (mask d c H6) D3 qs H7) ⟨[], rfl, InvC.nil nD3⟩ (fun i H7 _ z => SqL.of (z.choose_spec.2.1 _ _ fl2)) ?_ ?_
    · rintro i y H7x H7 hi ⟨qs, lq, inv⟩ ⟨rfl, hy⟩
      refine ⟨rfl, _, rfl, _, rfl, _, rfl, _, rfl, (by show 4 ≤ sizeLine; decide), fun q nq => ?_⟩
      obtain ⟨h1, h2⟩ := inv.step nD3 nq (px y (List.mem_of_getElem? hy)) (nb.pe nl) (nb.pp nl) (nb.pr nl)
      have lx2 : (xs ++ [od]).length = 12 := by rw [List.length_append, lx]; rfl
      refine ⟨_, h1, small1000 (by rw [List.length_map]; omega), qs ++ [q], by rw [List.length_append, lq]; rfl, h2⟩
    rintro H7 ⟨qs, lq, inv⟩
    have S7 := S6.same inv.1
    have cs := inv.end_ S6
    have lq : qs.length = 12 := by rw [lq, List.length_append, lx]; rfl
    have nD3' : mask d c H6 D3 = none := mask_none nD3
    have hL := inv.2.1
    refine name_step (σ' := [some (.ref d), some (.ref D), some (.ref sd), some (.ref ed), some (.int L.n), some (.ref rd), some (.int (kn : Nat)), some od, some (.ref D3), none, none, none, none, none]) rfl ?_
    -- six more
    have D3dc := S6.away nD3
    refine ⟨6, rfl, by decide, by decide, ?_⟩
    refine for_range (lo := 0) (fun i σ H8 => ∃ (v9 v10 : Option V) (qs' : List Addr), σ = [some (.ref d), some (.ref D), some (.ref sd), some (.ref ed), some (.int L.n), some (.ref rd), some (.int (kn : Nat)), some od, some (.ref D3), v9, v10, none, none, none] ∧ Keep d c H6 H8 ∧ Src H8 d c ∧ H8 D3 = some (.lst (qs'.map V.ref)) ∧ qs'.length = 12 + i ∧ Cands (hide D3 (mask d c H8)) qs')
      ⟨_, _, qs, rfl, Keep.of inv.1, S7, hL, lq, inv.endH S6 nD3⟩ ?_ ?_
    · rintro i σ H8 hi ⟨v9, v10, qs', rfl, k8, S8, hL8, lq8, cs8⟩
      refine ⟨_, rfl, _, rfl, _, rfl, (by show 3 ≤ sizeLine; decide), fun tp ntp => ⟨tp, rfl, ⟨_, SqT.of upd_same⟩, fun D2 nD2 => ?_⟩⟩
      have tpdc := S8.away ntp
      have q9 := same_new (H := H8) (o := .tup [.ref sd, .ref ed, .int L.n]) ntp
      have ftp := upd_same (H := H8) (a := tp) (o := .tup [.ref sd, .ref ed, .int L.n])
      revert nD2 q9 ftp
      generalize upd H8 tp (.tup [.ref sd, .ref ed, .int L.n]) = H9
      intro nD2 q9 ftp
      have S9 := S8.same q9
      have k9 := k8.trans (Keep.of q9)
      have hL9 := q9 _ _ hL8
      have nb9 := nb.same (hide_in nD3' (mask_keep k9))
      have ps : Pts (hide D3 (mask d c H9)) [.ref sd, .ref ed, .int L.n] := ptsC (nb9.ps nl) (ptsC (nb9.pe nl) (ptsC (nb9.pp nl) ptsN))
      have D2dc := S9.away nD2
      have nM : hide D3 (mask d c H9) D2 = none := hide_none (mask_none nD2)
      refine lc_it walk_tup (fun j H10 => ∃ us : List V, us.length = j ∧ Keep d c H9 H10 ∧ Src H10 d c ∧ H10 D2 = some (.lst us) ∧ Pts (hide D2 (hide D3 (mask d c H10))) us) ⟨[], rfl, Keep.refl.new nD2, S9.new nD2, upd_same, ptsN⟩ (fun j H10 _ z => SqT.of (z.choose_spec.2.1 _ _ ftp tpdc.1 tpdc.2)) ?_ ?_
      · rintro j y H10x H10 hj ⟨us, lu, k10, S10, hD10, pu⟩ ⟨rfl, hy⟩
        have hj : j < 3 := hj
        refine ⟨rfl, _, rfl, _, rfl, _, rfl, d, c, rfl, S10, fun v H11 ov S11 k11 => ⟨(by show 2 ≤ sizeLine; decide), fun lp nlp => ?_⟩⟩
        have hD11 := k11 _ _ hD10 D2dc.1 D2dc.2
        have hL10 := k10 _ _ hL9 D3dc.1 D3dc.2
        have ov2 : Ov (hide D2 (hide D3 (mask d c H11))) v := ov.same (newO_hide2 hL10 hD10)
        refine ⟨d, c, lp, [y, v], rfl, S11.new nlp, upd_same, (S11.away nlp).2, (by show 0 < 2; decide), (by show 2 < 1000000000; decide), fun e u H12 hu S12 k12 => ?_⟩
        have k12 := (Keep.refl.new (d := d) (c := c) (o := .lst [y, v]) nlp).trans k12
        have hD12 := k12 _ _ hD11 D2dc.1 D2dc.2
        have K12 := (k10.trans k11).trans k12
        have M12 : Same (hide D3 (mask d c H9)) (hide D2 (hide D3 (mask d c H12))) := hide_in nM (hide_mono (mask_keep K12))
        have pu12 : Pt (hide D2 (hide D3 (mask d c H12))) u := by
          match e, hu with
          | 0, hu => cases (Option.some.inj hu); exact (ps _ (List.mem_of_getElem? hy)).same M12
          | 1, hu => cases (Option.some.inj hu); exact ov2.pt.same (hide_mono (hide_mono (mask_keep k12)))
        have up : Same (hide D2 (hide D3 (mask d c H10))) (hide D2 (hide D3 (mask d c H12))) := hide_mono (hide_mono (mask_keep (k11.trans k12)))
        have put : Same (hide D2 (hide D3 (mask d c H12))) (hide D2 (hide D3 (mask d c (upd H12 D2 (.lst (us ++ [u])))))) := hide_up (hide_but mask_but)
        exact ⟨_, hD12, small1000 (by omega), us ++ [u], by rw [List.length_append, lu]; rfl, K12.put nD2, S12.put D2dc, upd_same, ptsA ((pu.same up).same put) (ptsC (pu12.same put) ptsN)⟩
      rintro H10 ⟨us, lu, k10, S10, hD10, pu⟩
      have lu3 : us.length = 3 := lu
      obtain ⟨u0, u1, u2, rfl⟩ : ∃ x y z, us = [x, y, z] := by
        match us, lu3 with
        | [x, y, z], _ => exact ⟨x, y, z, rfl⟩
      have pu := pu.same hide_same
      have hL10 := k10 _ _ hL9 D3dc.1 D3dc.2
      refine name_step (σ' := [some (.ref d), some (.ref D), some (.ref sd), some (.ref ed), some (.int L.n), some (.ref rd), some (.int (kn : Nat)), some od, some (.ref D3), some (.int (0 + (i : Nat))), some (.ref D2), none, none, none]) rfl ?_
      refine ⟨_, rfl, .inl ⟨rfl, _, SqL.of hL10⟩, ?_⟩
      refine ⟨_, rfl, D2, _, 0, _, rfl, rfl, SqL.of hD10, rfl, _, rfl, D2, _, 1, _, rfl, rfl, SqL.of hD10, rfl, _, rfl, D2, _, 2, _, rfl, rfl, SqL.of hD10, rfl, ?_⟩
      refine ⟨_, rfl, _, rfl, _, rfl, d, c, rfl, S10, fun v H11 ov S11 k11 => ⟨(by show 2 ≤ sizeLine; decide), fun lp nlp => ?_⟩⟩
      refine ⟨d, c, lp, [.ref rd, v], rfl, S11.new nlp, upd_same, (S11.away nlp).2, (by show 0 < 2; decide), (by show 2 < 1000000000; decide), fun e u H12 hu S12 k12 => ⟨(by show 4 ≤ sizeLine; decide), fun q nq => ?_⟩⟩
      have k12 := (Keep.refl.new (d := d) (c := c) (o := .lst [.ref rd, v]) nlp).trans k12
      have kk := k11.trans k12
      have hL12 := kk _ _ hL10 D3dc.1 D3dc.2
      have ov2 : Ov (hide D3 (mask d c H11)) v := ov.same (newO_hide hL10)
      have K12 := (k9.trans k10).trans kk
      have nb12 := nb.same (hide_in nD3' (mask_keep K12))
      have pu := pu.same (hide_mono (mask_keep kk))
      have cs12 := cs8.same (hide_mono (mask_keep (((Keep.of q9).trans k10).trans kk)))
      have pr : Pt (hide D3 (mask d c H12)) u := by
        match e, hu with
        | 0, hu => cases (Option.some.inj hu); exact nb12.pr nl
        | 1, hu => cases (Option.some.inj hu); exact ov2.pt.same (hide_mono (mask_keep k12))
      refine ⟨D3, _, .ref q, rfl, rfl, (by rw [upd_ne (ne_of_none hL12 nq)]; exact hL12), small1000 (by rw [List.length_map]; omega), ?_⟩
      exact ⟨_, _, qs' ++ [q], rfl, (K12.new nq).put nD3, (S12.new nq).put D3dc, by rw [upd_same, List.map_append]; rfl, by rw [List.length_append, lq8]; rfl, cand_put S12 hL12 cs12 nq (pu u0 List.mem_cons_self) (pu u1 (List.mem_cons_of_mem _ List.mem_cons_self)) (pu u2 (List.mem_cons_of_mem _ (List.mem_cons_of_mem _ List.mem_cons_self))) pr⟩
    rintro σ H8 ⟨v9, v10, qs', rfl, k8, S8, hL8, lq8, cs8⟩
    have nb := nb.same (mask_keep k8)
    have K8 := K6.trans k8
    have cs := cs8.same hide_same
    clear cs8 k8 S7 hL lq inv nD3' fl2 px S6 K6 D3dc lx
    have lq8 : qs'.length = 18 := lq8
    refine ⟨_, rfl, _, rfl, ed, L.g, L.r, rfl, mask_same _ _ nb.et, nl.r0, nl.r60, by omega, fun bl xs H9 q9 nbl hbl pts lx => ?_⟩
    have pts := pts.same (newO_mask S8)
    refine ⟨_, rfl, (by show 1 ≤ sizeLine; decide), fun l1 nl1 => ?_⟩
    have ql1 := same_new (H := H9) (o := .lst [od]) nl1
    have fl1 := upd_same (H := H9) (a := l1) (o := .lst [od])
    revert ql1 fl1
    generalize upd H9 l1 (.lst [od]) = hl1
    intro ql1 fl1
    refine ⟨bl, l1, xs, [od], rfl, rfl, ql1 _ _ hbl, fl1, by rw [lx]; show 12 ≤ sizeLine; decide, fun l2 nl2 => ?_⟩
    have ql2 := same_new (H := hl1) (o := .lst (xs ++ [od])) nl2
    have fl2 := upd_same (H := hl1) (a := l2) (o := .lst (xs ++ [od]))
    revert ql2 fl2
    generalize upd hl1 l2 (.lst (xs ++ [od])) = hl2
    intro ql2 fl2
    have qq := q9.trans (ql1.trans ql2)
    have S9 := S8.same qq
    have nb := nb.same (sub_same qq)
    have cs := cs.same (sub_same qq)
    have px : Pts (mask d c hl2) (xs ++ [od]) := ptsA (pts.same (sub_same (ql1.trans ql2))) (ptsC nb.od.pt ptsN)
    have K9 := K8.trans (Keep.of qq)
    have hL9 := qq _ _ hL8
    have lx2 : (xs ++ [od]).length = 12 := by rw [List.length_append, lx]; rfl
    clear qq ql1 ql2 fl1 nl1 nl2 pts hbl nbl q9 S8 K8 hL8 lx
    refine ⟨l2, rfl, ⟨_, SqL.of fl2⟩, fun D5 nD5 => ?_⟩
    refine lc_it walk_list (fun i H7 => ∃ qs : List Addr, qs.length = i ∧ InvC hl2 (mask d c hl2) D5 qs H7) ⟨[], rfl, InvC.nil nD5⟩ (fun i H7 _ z => SqL.of (z.choose_spec.2.1 _ _ fl2)) ?_ ?_
    · rintro i y H7x H7 hi ⟨qs, lq, inv⟩ ⟨rfl, hy⟩
      refine ⟨rfl, _, rfl, _, rfl, _, rfl, _, rfl, (by show 4 ≤ sizeLine; decide), fun q nq => ?_⟩
      obtain ⟨h1, h2⟩ := inv.step nD5 nq (nb.ps nl) (px y (List.mem_of_getElem? hy)) (nb.pp nl) (nb.pr nl)
      have := lx2
      exact ⟨_, h1, small1000 (by rw [List.length_map]; omega), qs ++ [q], by rw [List.length_append, lq]; rfl, h2⟩
    rintro H11 ⟨qs5, lq5, inv5⟩
    have S11 := S9.same inv5.1
    have nb := nb.same (sub_same inv5.1)
    have cs := candsA (cs.same (sub_same inv5.1)) (inv5.end_ S9)
    have lq5 : qs5.length = 12 := by rw [lq5, lx2]
    have K11 := K9.trans (Keep.of inv5.1)
    refine ⟨D3, D5, _, _, rfl, rfl, inv5.1 _ _ hL9, inv5.2.1, le1000 (by rw [List.length_map, List.length_map]; omega), fun L5 nL5 => ?_⟩
    have qL5 := same_new (H := H11) (o := .lst (qs'.map V.ref ++ qs5.map V.ref)) nL5
    have fL5 := upd_same (H := H11) (a := L5) (o := .lst (qs'.map V.ref ++ qs5.map V.ref))
    revert qL5 fL5
    generalize upd H11 L5 (.lst (qs'.map V.ref ++ qs5.map V.ref)) = hL5
    intro qL5 fL5
    refine name_step (σ' := [some (.ref d), some (.ref D), some (.ref sd), some (.ref ed), some (.int L.n), some (.ref rd), some (.int (kn : Nat)), some od, some (.ref L5), v9, v10, none, none, none]) rfl ?_
    have S12 := S11.same qL5
    have nb := nb.same (sub_same qL5)
    have cs := cs.same (sub_same qL5)
    have K12 := K11.trans (Keep.of qL5)
    have lq6 : (qs' ++ qs5).length = 30 := by rw [List.length_append, lq5]; omega
    rw [← List.map_append] at fL5
    clear inv5 S9 S11 K9 K11 hL9 lx2 lq5 lq8 nL5 qL5 px fl2
    generalize qs' ++ qs5 = qs6 at cs lq6 fL5
    -- periods
    have n0 := nl.n0
    have n60 := nl.n60
    refine ⟨_, rfl, ?_⟩
    refine ⟨_, rfl, _, _, rfl, rfl, .inl ⟨by omega, by omega⟩, _, rfl, L.n, rfl, _, rfl, _, _, rfl, rfl, _, rfl, (by show 7 ≤ sizeLine; decide), fun l6 nl6 => ?_⟩
    have ql6 := same_new (H := hL5) (o := .lst [.int (2 * L.n), .int 0, .int (-L.n), .int (L.n + 1), .bl true, .non, od]) nl6
    have fl6 := upd_same (H := hL5) (a := l6) (o := .lst [.int (2 * L.n), .int 0, .int (-L.n), .int (L.n + 1), .bl true, .non, od])
    revert ql6 fl6
    generalize upd hL5 l6 (.lst [.int (2 * L.n), .int 0, .int (-L.n), .int (L.n + 1), .bl true, .non, od]) = hl6
    intro ql6 fl6
    have S13 := S12.same ql6
    have nb := nb.same (sub_same ql6)
    have cs := cs.same (sub_same ql6)
    have K13 := K12.trans (Keep.of ql6)
    have fL5 := ql6 _ _ fL5
    have px : Pts (mask d c hl6) [.int (2 * L.n), .int 0, .int (-L.n), .int (L.n + 1), .bl true, .non, od] := ptsC (pt_int (by omega)) (ptsC (pt_int (by decide)) (ptsC (pt_int (by omega)) (ptsC (pt_int (by omega)) (ptsC ⟨_, .bl _, (sm_bool _).fit fun _ z => by cases z⟩ (ptsC ⟨_, .non, sm_none.fit fun _ z => by cases z⟩ (ptsC nb.od.pt ptsN))))))
    clear S12 K12 ql6 nl6
    refine ⟨l6, rfl, ⟨_, SqL.of fl6⟩, fun D6 nD6 => ?_⟩
    refine lc_it walk_list (fun i H7 => ∃ qs : List Addr, qs.length = i ∧ InvC hl6 (mask d c hl6) D6 qs H7) ⟨[], rfl, InvC.nil nD6⟩ (fun i H7 _ z => SqL.of (z.choose_spec.2.1 _ _ fl6)) ?_ ?_
    · rintro i y H7x H7 hi ⟨qs, lq, inv⟩ ⟨rfl, hy⟩
      refine ⟨rfl, _, rfl, _, rfl, _, rfl, _, rfl, (by show 4 ≤ sizeLine; decide), fun q nq => ?_⟩
      obtain ⟨h1, h2⟩ := inv.step nD6 nq (nb.ps nl) (nb.pe nl) (px y (List.mem_of_getElem? hy)) (nb.pr nl)
      have : i < 7 := hi
      exact ⟨_, h1, small1000 (by rw [List.length_map]; omega), qs ++ [q], by rw [List.length_append, lq]; rfl, h2⟩
    rintro H14 ⟨qs7, lq7, inv6⟩
    have S14 := S13.same inv6.1
    have nb := nb.same (sub_same inv6.1)
    have cs := candsA (cs.same (sub_same inv6.1)) (inv6.end_ S13)
    have lq7 : qs7.length = 7 := lq7
    have K14 := K13.trans (Keep.of inv6.1)
    refine ⟨L5, D6, _, _, rfl, rfl, inv6.1 _ _ fL5, inv6.2.1, le1000 (by rw [List.length_map, List.length_map]; omega), fun L6 nL6 => ?_⟩
    have nb14 := nb
    have qL6 := same_new (H := H14) (o := .lst (qs6.map V.ref ++ qs7.map V.ref)) nL6
    have fL6 := upd_same (H := H14) (a := L6) (o := .lst (qs6.map V.ref ++ qs7.map V.ref))
    revert qL6 fL6
    generalize upd H14 L6 (.lst (qs6.map V.ref ++ qs7.map V.ref)) = hL6
    intro qL6 fL6
    refine name_step (σ' := [some (.ref d), some (.ref D), some (.ref sd), some (.ref ed), some (.int L.n), some (.ref rd), some (.int (kn : Nat)), some od, some (.ref L6), v9, v10, none, none, none]) rfl ?_
    have S15 := S14.same qL6
    have L6dc := S14.away nL6
    have cs6 : Cands (hide L6 (mask d c hL6)) (qs6 ++ qs7) := cs.same (hide_in (mask_none nL6) (sub_same qL6))
    have lq8 : (qs6 ++ qs7).length = 37 := by rw [List.length_append, lq7, lq6]
    rw [← List.map_append] at fL6
    clear inv6 S13 K13 lq7 lq6 px fl6 fL5 cs
    generalize qs6 ++ qs7 = qs8 at cs6 lq8 fL6
    -- rows
    have nb := nb.same (sub_same qL6)
    have ek : (ks.map V.int)[kn]? = some (.int ks[kn]) := by rw [List.getElem?_map, List.getElem?_eq_getElem hk]; rfl
    have e0 : (ks.map V.int)[0]? = some (.int ks[0]) := by rw [List.getElem?_map, List.getElem?_eq_getElem kpos]; rfl
    have zk := nl.sm ks[kn] (List.getElem_mem hk)
    have z0 := nl.sm ks[0] (List.getElem_mem kpos)
    generalize ks[kn] = zn at ek zk
    generalize ks[0] = zz at e0 z0
    have r0 := nl.r0
    have r60 := nl.r60
    have hrd := mask_same _ _ nb.rw_
    have het := mask_same _ _ nb.et
    refine ⟨_, rfl, _, rfl, rd, _, _, _, rfl, rfl, SqL.of hrd, atN ek, _, rfl, ed, _, 1, _, rfl, rfl, SqT.of het, rfl, _, _, rfl, rfl, _, rfl, _, rfl, rd, _, _, _, rfl, rfl, SqL.of hrd, atN ek, _, rfl, ed, _, 1, _, rfl, rfl, SqT.of het, rfl, _, _, rfl, rfl, _, rfl, _, rfl, rd, _, _, _, rfl, rfl, SqL.of hrd, atN ek, _, _, rfl, rfl, _, rfl, rd, _, 0, _, rfl, rfl, SqL.of hrd, atN (i := 0) e0, _, rfl, _, _, rfl, rfl, _, rfl, ed, _, 1, _, rfl, rfl, SqT.of het, rfl, _, _, rfl, rfl, _, rfl, _, rfl, _, rfl, rd, _, _, _, rfl, rfl, SqL.of hrd, atN ek, zn, rfl, log_ok zk, (by show 7 ≤ sizeLine; decide), fun l7 nl7 => ?_⟩
    have ql7 := same_new (H := hL6) (o := .lst [.int (zn + L.r), .int (zn - L.r), .int (zn + 1), .int (zz + L.n + L.r), od, .bl true, .str (Str.ofString (toString zn))]) nl7
    have fl7 := upd_same (H := hL6) (a := l7) (o := .lst [.int (zn + L.r), .int (zn - L.r), .int (zn + 1), .int (zz + L.n + L.r), od, .bl true, .str (Str.ofString (toString zn))])
    revert ql7 fl7
    generalize upd hL6 l7 (.lst [.int (zn + L.r), .int (zn - L.r), .int (zn + 1), .int (zz + L.n + L.r), od, .bl true, .str (Str.ofString (toString zn))]) = hl7
    intro ql7 fl7
    have S16 := S15.same ql7
    have lL : l7 ≠ L6 := (ne_of_none fL6 nl7).symm
    have rdL : rd ≠ L6 := ne_of_none (mask_same _ _ nb14.rw_) nL6
    have K1417 : Keep d c H14 hl7 := Keep.of (qL6.trans ql7)
    have fL6 := ql7 _ _ fL6
    have cs7 := cs6.same (hide_mono (sub_same ql7))
    have hrd := ql7 _ _ hrd
    have K15 := K14.trans (Keep.of (qL6.trans ql7))
    have nL6H : H L6 = none := Keep.free K14 L6dc nL6
    have oth : ∀ y, y ∈ [V.int (zn + L.r), .int (zn - L.r), .int (zn + 1), .int (zz + L.n + L.r), od, .bl true, .str (Str.ofString (toString zn))] → It (mask d c H14) y := by
      intro y m
      simp only [List.mem_cons, List.not_mem_nil, or_false] at m
      rcases m with rfl | rfl | rfl | rfl | rfl | rfl | rfl
      · exact it_int (by omega)
      · exact it_int (by omega)
      · exact it_int (by omega)
      · exact it_int (by omega)
      · exact nb14.od.it
      · exact ⟨_, .bl _, sm_bool _⟩
      · exact ⟨_, .str _, sm_text (by omega)⟩
    have lcs : ∀ (xs : List V) (lo hi : Option Int), (cutV xs lo hi).length ≤ xs.length := fun _ _ _ => cutV_len
    have lks : (ks.map V.int).length ≤ 60 := by rw [List.length_map]; exact klen
    clear K14 S14 S15 qL6 cs6 het ek e0 nl7 ql7
    refine ⟨l7, rfl, ⟨_, SqL.of fl7⟩, ?_⟩
    refine for_it walk_list (fun i σ H17 => ∃ (v11 : Option V) (qs9 : List Addr), σ = [some (.ref d), some (.ref D), some (.ref sd), some (.ref ed), some (.int L.n), some (.ref rd), some (.int (kn : Nat)), some od, some (.ref L6), v9, v10, v11, none, none] ∧ Sbut L6 hl7 H17 ∧ H17 L6 = some (.lst (qs9.map V.ref)) ∧ qs9.length = 37 + 2 * i ∧ Cands (hide L6 (mask d c H17)) qs9)
      ⟨_, qs8, rfl, Sbut.refl, fL6, lq8, cs7⟩ (fun i σ H17 _ z => SqL.of (z.choose_spec.choose_spec.2.1 _ _ fl7 lL)) ?_ ?_
    · rintro i y σ H17x H17 hi ⟨v11, qs9, rfl, b17, hL17, lq9, cs17⟩ ⟨rfl, hy⟩
      have hi : i < 7 := hi
      have hy := oth y (List.mem_of_getElem? hy)
      have S17 := src_but S16 b17 L6dc
      have hrd17 := b17 _ _ hrd rdL
      -- append
      refine ⟨_, rfl, .inl ⟨rfl, _, SqL.of hL17⟩, _, rfl, _, rfl, _, rfl, _, rfl, _, rfl, _, rfl, rd, _, rfl, SqL.of hrd17, fun b117 nb117 => ?_⟩
      have qb117 := same_new (H := H17) (o := .lst (cutV (ks.map V.int) none (some (kn : Int)))) nb117
      have fb117 := upd_same (H := H17) (a := b117) (o := .lst (cutV (ks.map V.int) none (some (kn : Int))))
      revert qb117 fb117
      generalize upd H17 b117 (.lst (cutV (ks.map V.int) none (some (kn : Int)))) = hb117
      intro qb117 fb117
      refine ⟨_, rfl, (by show 1 ≤ sizeLine; decide), fun b217 nb217 => ?_⟩
      have qb217 := same_new (H := hb117) (o := .lst [y]) nb217
      have fb217 := upd_same (H := hb117) (a := b217) (o := .lst [y])
      revert qb217 fb217
      generalize upd hb117 b217 (.lst [y]) = hb217
      intro qb217 fb217
      have lA17 : (cutV (ks.map V.int) none (some (kn : Int))).length ≤ 60 := Nat.le_trans (lcs _ _ _) (by first | exact lks | (rw [List.length_reverse]; exact lks))
      have lB17 : (cutV (ks.map V.int) (some ((kn : Int) + 1)) none).length ≤ 60 := Nat.le_trans (lcs _ _ _) (by first | exact lks | (rw [List.length_reverse]; exact lks))
      refine ⟨b117, b217, _, _, rfl, rfl, qb217 _ _ fb117, fb217, le1000 (by rw [List.length_singleton]; omega), fun b317 nb317 => ?_⟩
      have qb317 := same_new (H := hb217) (o := .lst ((cutV (ks.map V.int) none (some (kn : Int))) ++ [y])) nb317
      have fb317 := upd_same (H := hb217) (a := b317) (o := .lst ((cutV (ks.map V.int) none (some (kn : Int))) ++ [y]))
      revert qb317 fb317
      generalize upd hb217 b317 (.lst ((cutV (ks.map V.int) none (some (kn : Int))) ++ [y])) = hb317
      intro qb317 fb317
      have hr317 := ((qb117.trans qb217).trans qb317) _ _ hrd17
      refine ⟨_, rfl, _, rfl, _, _, rfl, rfl, _, rfl, rd, _, rfl, SqL.of hr317, fun b417 nb417 => ?_⟩
      have qb417 := same_new (H := hb317) (o := .lst (cutV (ks.map V.int) (some ((kn : Int) + 1)) none)) nb417
      have fb417 := upd_same (H := hb317) (a := b417) (o := .lst (cutV (ks.map V.int) (some ((kn : Int) + 1)) none))
      revert qb417 fb417
      generalize upd hb317 b417 (.lst (cutV (ks.map V.int) (some ((kn : Int) + 1)) none)) = hb417
      intro qb417 fb417
      refine ⟨b317, b417, _, _, rfl, rfl, (qb417 _ _ fb317), fb417, le1000 (by rw [List.length_append, List.length_singleton]; omega), fun b517 nb517 => ?_⟩
      have qb517 := same_new (H := hb417) (o := .lst ((cutV (ks.map V.int) none (some (kn : Int))) ++ [y] ++ (cutV (ks.map V.int) (some ((kn : Int) + 1)) none))) nb517
      have fb517 := upd_same (H := hb417) (a := b517) (o := .lst ((cutV (ks.map V.int) none (some (kn : Int))) ++ [y] ++ (cutV (ks.map V.int) (some ((kn : Int) + 1)) none)))
      revert qb517 fb517
      generalize upd hb417 b517 (.lst ((cutV (ks.map V.int) none (some (kn : Int))) ++ [y] ++ (cutV (ks.map V.int) (some ((kn : Int) + 1)) none))) = hb517
      intro qb517 fb517
      have qp17 := (((qb117.trans qb217).trans qb317).trans qb417)
      have qa17 := qp17.trans qb517
      have hLp17 := qp17 _ _ hL17
      have hLb17 := qb517 _ _ hLp17
      refine ⟨(by show 4 ≤ sizeLine; decide), fun q17 nq17 => ?_⟩
      refine ⟨L6, _, .ref q17, rfl, rfl, (by rw [upd_ne (ne_of_none hLb17 nq17)]; exact hLb17), small1000 (by first | (rw [List.length_map]; omega) | (rw [List.length_map, lq18]; omega)), ?_⟩
      have Sp17 := S17.same qp17
      have Sb17 := Sp17.same qb517
      have bb17 : Sbut L6 hl7 hb517 := b17.trans (Sbut.of qa17)
      have up17 : Same (mask d c H14) (hide L6 (mask d c hb517)) := hide_in (mask_none nL6) (mask_keep (keep_but K1417 bb17 nL6))
      have nn17 := nb14.same up17
      have prow17 : Pt (hide L6 (mask d c hb517)) (.ref b517) := pt_lst (hide_at (ne_of_none hLp17 nb517).symm (mask_at (Sp17.away nb517) fb517)) (row_its nl.its (hy.same up17) (fun x m => (by first | exact cutV_mem m | exact List.mem_reverse.mp (cutV_mem m))) (fun x m => (by first | exact cutV_mem m | exact List.mem_reverse.mp (cutV_mem m)))) (by simp only [List.length_append, List.length_singleton]; omega)
      have cs18 := cand_put (o := .lst (qs9.map V.ref ++ [.ref q17])) Sb17 hLb17 (cs17.same (hide_mono (sub_same qa17))) nq17 (nn17.ps nl) (nn17.pe nl) (nn17.pp nl) prow17
      have S18 := (Sb17.new (o := .tup [.ref sd, .ref ed, .int L.n, .ref b517]) nq17).put (o := .lst (qs9.map V.ref ++ [.ref q17])) L6dc
      have b18 : Sbut L6 hl7 (upd (upd hb517 q17 (.tup [.ref sd, .ref ed, .int L.n, .ref b517])) L6 (.lst (qs9.map V.ref ++ [.ref q17]))) := (bb17.trans (Sbut.of (same_new nq17))).trans Sbut.put
      have hL18 := upd_same (H := upd hb517 q17 (.tup [.ref sd, .ref ed, .int L.n, .ref b517])) (a := L6) (o := .lst (qs9.map V.ref ++ [.ref q17]))
      revert cs18 S18 b18 hL18
      generalize upd (upd hb517 q17 (.tup [.ref sd, .ref ed, .int L.n, .ref b517])) L6 (.lst (qs9.map V.ref ++ [.ref q17])) = H18
      intro cs18 S18 b18 hL18
      rw [refs_snoc] at hL18
      have lq18 : (qs9 ++ [q17]).length = qs9.length + 1 := by rw [List.length_append]; rfl
      have hrd18 := b18 _ _ hrd rdL
      clear fb117 fb217 fb317 fb417 fb517 nb117 nb217 nb317 nb417 nb517 qp17 qa17 hLp17 hLb17 Sp17 Sb17 bb17 up17 nn17 prow17 hr317 qb117 qb217 qb317 qb417 qb517 cs17 S17 b17 hL17 hrd17
      -- append
      refine ⟨_, rfl, .inl ⟨rfl, _, SqL.of hL18⟩, _, rfl, _, rfl, _, rfl, _, rfl, rd, _, rfl, SqL.of hrd18, fun v118 nv118 => ?_⟩
      have qv118 := same_new (H := H18) (o := .lst (ks.map V.int).reverse) nv118
      have fv118 := upd_same (H := H18) (a := v118) (o := .lst (ks.map V.int).reverse)
      revert qv118 fv118
      generalize upd H18 v118 (.lst (ks.map V.int).reverse) = hv118
      intro qv118 fv118
      refine ⟨_, rfl, _, rfl, v118, _, rfl, SqL.of fv118, fun b118 nb118 => ?_⟩
      have qb118 := same_new (H := hv118) (o := .lst (cutV (ks.map V.int).reverse none (some (kn : Int)))) nb118
      have fb118 := upd_same (H := hv118) (a := b118) (o := .lst (cutV (ks.map V.int).reverse none (some (kn : Int))))
      revert qb118 fb118
      generalize upd hv118 b118 (.lst (cutV (ks.map V.int).reverse none (some (kn : Int)))) = hb118
      intro qb118 fb118
      refine ⟨_, rfl, (by show 1 ≤ sizeLine; decide), fun b218 nb218 => ?_⟩
      have qb218 := same_new (H := hb118) (o := .lst [y]) nb218
      have fb218 := upd_same (H := hb118) (a := b218) (o := .lst [y])
      revert qb218 fb218
      generalize upd hb118 b218 (.lst [y]) = hb218
      intro qb218 fb218
      have lA18 : (cutV (ks.map V.int).reverse none (some (kn : Int))).length ≤ 60 := Nat.le_trans (lcs _ _ _) (by first | exact lks | (rw [List.length_reverse]; exact lks))
      have lB18 : (cutV (ks.map V.int).reverse (some ((kn : Int) + 1)) none).length ≤ 60 := Nat.le_trans (lcs _ _ _) (by first | exact lks | (rw [List.length_reverse]; exact lks))
      refine ⟨b118, b218, _, _, rfl, rfl, qb218 _ _ fb118, fb218, le1000 (by rw [List.length_singleton]; omega), fun b318 nb318 => ?_⟩
      have qb318 := same_new (H := hb218) (o := .lst ((cutV (ks.map V.int).reverse none (some (kn : Int))) ++ [y])) nb318
      have fb318 := upd_same (H := hb218) (a := b318) (o := .lst ((cutV (ks.map V.int).reverse none (some (kn : Int))) ++ [y]))
      revert qb318 fb318
      generalize upd hb218 b318 (.lst ((cutV (ks.map V.int).reverse none (some (kn : Int))) ++ [y])) = hb318
      intro qb318 fb318
      have hr318 := (((qv118.trans qb118).trans qb218).trans qb318) _ _ hrd18
      refine ⟨_, rfl, rd, _, rfl, SqL.of hr318, fun v218 nv218 => ?_⟩
      have qv218 := same_new (H := hb318) (o := .lst (ks.map V.int).reverse) nv218
      have fv218 := upd_same (H := hb318) (a := v218) (o := .lst (ks.map V.int).reverse)
      revert qv218 fv218
      generalize upd hb318 v218 (.lst (ks.map V.int).reverse) = hv218
      intro qv218 fv218
      refine ⟨_, rfl, _, _, rfl, rfl, _, rfl, v218, _, rfl, SqL.of fv218, fun b418 nb418 => ?_⟩
      have qb418 := same_new (H := hv218) (o := .lst (cutV (ks.map V.int).reverse (some ((kn : Int) + 1)) none)) nb418
      have fb418 := upd_same (H := hv218) (a := b418) (o := .lst (cutV (ks.map V.int).reverse (some ((kn : Int) + 1)) none))
      revert qb418 fb418
      generalize upd hv218 b418 (.lst (cutV (ks.map V.int).reverse (some ((kn : Int) + 1)) none)) = hb418
      intro qb418 fb418
      refine ⟨b318, b418, _, _, rfl, rfl, (qb418 _ _ (qv218 _ _ fb318)), fb418, le1000 (by rw [List.length_append, List.length_singleton]; omega), fun b518 nb518 => ?_⟩
      have qb518 := same_new (H := hb418) (o := .lst ((cutV (ks.map V.int).reverse none (some (kn : Int))) ++ [y] ++ (cutV (ks.map V.int).reverse (some ((kn : Int) + 1)) none))) nb518
      have fb518 := upd_same (H := hb418) (a := b518) (o := .lst ((cutV (ks.map V.int).reverse none (some (kn : Int))) ++ [y] ++ (cutV (ks.map V.int).reverse (some ((kn : Int) + 1)) none)))
      revert qb518 fb518
      generalize upd hb418 b518 (.lst ((cutV (ks.map V.int).reverse none (some (kn : Int))) ++ [y] ++ (cutV (ks.map V.int).reverse (some ((kn : Int) + 1)) none))) = hb518
      intro qb518 fb518
      have qp18 := (((((qv118.trans qb118).trans qb218).trans qb318).trans qv218).trans qb418)
      have qa18 := qp18.trans qb518
      have hLp18 := qp18 _ _ hL18
      have hLb18 := qb518 _ _ hLp18
      refine ⟨(by show 4 ≤ sizeLine; decide), fun q18 nq18 => ?_⟩
      refine ⟨L6, _, .ref q18, rfl, rfl, (by rw [upd_ne (ne_of_none hLb18 nq18)]; exact hLb18), small1000 (by first | (rw [List.length_map]; omega) | (rw [List.length_map, lq18]; omega)), ?_⟩
      have Sp18 := S18.same qp18
      have Sb18 := Sp18.same qb518
      have bb18 : Sbut L6 hl7 hb518 := b18.trans (Sbut.of qa18)
      have up18 : Same (mask d c H14) (hide L6 (mask d c hb518)) := hide_in (mask_none nL6) (mask_keep (keep_but K1417 bb18 nL6))
      have nn18 := nb14.same up18
      have prow18 : Pt (hide L6 (mask d c hb518)) (.ref b518) := pt_lst (hide_at (ne_of_none hLp18 nb518).symm (mask_at (Sp18.away nb518) fb518)) (row_its nl.its (hy.same up18) (fun x m => (by first | exact cutV_mem m | exact List.mem_reverse.mp (cutV_mem m))) (fun x m => (by first | exact cutV_mem m | exact List.mem_reverse.mp (cutV_mem m)))) (by simp only [List.length_append, List.length_singleton]; omega)
      have cs19 := cand_put (o := .lst ((qs9 ++ [q17]).map V.ref ++ [.ref q18])) Sb18 hLb18 (cs18.same (hide_mono (sub_same qa18))) nq18 (nn18.ps nl) (nn18.pe nl) (nn18.pp nl) prow18
      have S19 := (Sb18.new (o := .tup [.ref sd, .ref ed, .int L.n, .ref b518]) nq18).put (o := .lst ((qs9 ++ [q17]).map V.ref ++ [.ref q18])) L6dc
      have b19 : Sbut L6 hl7 (upd (upd hb518 q18 (.tup [.ref sd, .ref ed, .int L.n, .ref b518])) L6 (.lst ((qs9 ++ [q17]).map V.ref ++ [.ref q18]))) := (bb18.trans (Sbut.of (same_new nq18))).trans Sbut.put
      have hL19 := upd_same (H := upd hb518 q18 (.tup [.ref sd, .ref ed, .int L.n, .ref b518])) (a := L6) (o := .lst ((qs9 ++ [q17]).map V.ref ++ [.ref q18]))
      revert cs19 S19 b19 hL19
      generalize upd (upd hb518 q18 (.tup [.ref sd, .ref ed, .int L.n, .ref b518])) L6 (.lst ((qs9 ++ [q17]).map V.ref ++ [.ref q18])) = H19
      intro cs19 S19 b19 hL19
      rw [refs_snoc] at hL19
      have lq19 : ((qs9 ++ [q17]) ++ [q18]).length = (qs9 ++ [q17]).length + 1 := by rw [List.length_append]; rfl
      have hrd19 := b19 _ _ hrd rdL
      clear fb118 fb218 fb318 fb418 fb518 nb118 nb218 nb318 nb418 nb518 nv118 nv218 fv118 fv218 qp18 qa18 hLp18 hLb18 Sp18 Sb18 bb18 up18 nn18 prow18 hr318 qv118 qb118 qb218 qb318 qv218 qb418 qb518 cs18 S18 b18 hL18 hrd18
      exact ⟨_, _, rfl, b19, hL19, by rw [lq19, lq18, lq9]; omega, cs19⟩
    rintro σ H17 ⟨v11, qs9, rfl, b17, hL17, lq9, cs9⟩
    have lq9 : qs9.length = 51 := lq9
    have S17 := src_but S16 b17 L6dc
    have hrd17 := b17 _ _ hrd rdL
    have nb := nb14.same (mask_keep (keep_but K1417 b17 nL6))
    have cs := cs9.same hide_same
    have K17 : Keep d c H H17 := keep_but K15 b17 nL6H
    clear cs9 b17 S16 hrd oth fl7 cs7 fL6 K15
    refine ⟨_, rfl, _, rfl, rd, _, rfl, .inl ⟨SqL.of hrd17, fun a1 na1 => ?_⟩⟩
    have qa1 := same_new (H := H17) (o := .tup (ks.map V.int)) na1
    have fa1 := upd_same (H := H17) (a := a1) (o := .tup (ks.map V.int))
    revert qa1 fa1
    generalize upd H17 a1 (.tup (ks.map V.int)) = ha1
    intro qa1 fa1
    have hra := qa1 _ _ hrd17
    refine ⟨_, rfl, 1, rfl, _, rfl, rd, _, rfl, SqL.of hra, fun a2 na2 => ?_⟩
    have qa2 := same_new (H := ha1) (o := .lst (cutV (ks.map V.int) none (some (-1)))) na2
    have fa2 := upd_same (H := ha1) (a := a2) (o := .lst (cutV (ks.map V.int) none (some (-1))))
    revert qa2 fa2
    generalize upd ha1 a2 (.lst (cutV (ks.map V.int) none (some (-1)))) = ha2
    intro qa2 fa2
    have hra := qa2 _ _ hra
    refine ⟨_, rfl, _, rfl, 1, rfl, _, rfl, rd, _, rfl, SqL.of hra, fun a3 na3 => ?_⟩
    have qa3 := same_new (H := ha2) (o := .lst (cutV (ks.map V.int) (some (-1)) none)) na3
    have fa3 := upd_same (H := ha2) (a := a3) (o := .lst (cutV (ks.map V.int) (some (-1)) none))
    revert qa3 fa3
    generalize upd ha2 a3 (.lst (cutV (ks.map V.int) (some (-1)) none)) = ha3
    intro qa3 fa3
    have hra := qa3 _ _ hra
    have lA : (cutV (ks.map V.int) none (some (-1))).length ≤ 60 := Nat.le_trans cutV_len lks
    have lB : (cutV (ks.map V.int) (some (-1)) none).length ≤ 60 := Nat.le_trans cutV_len lks
    refine ⟨rd, a3, _, _, rfl, rfl, hra, fa3, le1000 (by omega), fun a4 na4 => ?_⟩
    have qa4 := same_new (H := ha3) (o := .lst (ks.map V.int ++ cutV (ks.map V.int) (some (-1)) none)) na4
    have fa4 := upd_same (H := ha3) (a := a4) (o := .lst (ks.map V.int ++ cutV (ks.map V.int) (some (-1)) none))
    revert qa4 fa4
    generalize upd ha3 a4 (.lst (ks.map V.int ++ cutV (ks.map V.int) (some (-1)) none)) = ha4
    intro qa4 fa4
    have hra := qa4 _ _ hra
    refine ⟨_, rfl, rd, _, rfl, SqL.of hra, fun a5 na5 => ?_⟩
    have qa5 := same_new (H := ha4) (o := .lst (ks.map V.int).reverse) na5
    have fa5 := upd_same (H := ha4) (a := a5) (o := .lst (ks.map V.int).reverse)
    revert qa5 fa5
    generalize upd ha4 a5 (.lst (ks.map V.int).reverse) = ha5
    intro qa5 fa5
    refine ⟨_, rfl, (by show 6 ≤ sizeLine; decide), fun l8 nl8 => ?_⟩
    have ql8 := same_new (H := ha5) (o := .lst [.ref a1, .ref a2, .ref a4, .ref a5, .non, od]) nl8
    have fl8 := upd_same (H := ha5) (a := l8) (o := .lst [.ref a1, .ref a2, .ref a4, .ref a5, .non, od])
    revert ql8 fl8
    generalize upd ha5 l8 (.lst [.ref a1, .ref a2, .ref a4, .ref a5, .non, od]) = hl8
    intro ql8 fl8
    have q1 := qa1.trans qa2
    have q2 := q1.trans qa3
    have q3 := q2.trans qa4
    have q4 := q3.trans qa5
    have q5 := q4.trans ql8
    have S1 := S17.same qa1
    have S3 := S17.same q2
    have S4 := S17.same q3
    have S5 := S17.same q5
    have nb := nb.same (sub_same q5)
    have cs := cs.same (sub_same q5)
    have g1 := sub_same (d := d) (c := c) (((qa2.trans qa3).trans (qa4.trans qa5)).trans ql8)
    have g2 := sub_same (d := d) (c := c) ((qa3.trans (qa4.trans qa5)).trans ql8)
    have g4 := sub_same (d := d) (c := c) (qa5.trans ql8)
    have g5 := sub_same (d := d) (c := c) ql8
    have px : Pts (mask d c hl8) [.ref a1, .ref a2, .ref a4, .ref a5, .non, od] := ptsC (pt_tup (g1 _ _ (mask_at (S17.away na1) fa1)) nl.its (by omega))
      (ptsC (pt_lst (g2 _ _ (mask_at (S1.away na2) fa2)) (fun x m => nl.its x (cutV_mem m)) (by omega))
      (ptsC (pt_lst (g4 _ _ (mask_at (S3.away na4) fa4)) (fun x m => (List.mem_append.mp m).elim (nl.its x) fun m => nl.its x (cutV_mem m)) (by rw [List.length_append]; omega))
      (ptsC (pt_lst (g5 _ _ (mask_at (S4.away na5) fa5)) (fun x m => nl.its x (List.mem_reverse.mp m)) (by rw [List.length_reverse]; omega))
      (ptsC ⟨_, .non, sm_none.fit fun _ z => by cases z⟩ (ptsC nb.od.pt ptsN)))))
    have K18 := K17.trans (Keep.of q5)
    have hL18 := q5 _ _ hL17
    clear q1 q2 q3 q4 g1 g2 g4 g5 S1 S3 S4 fa1 fa2 fa3 fa4 fa5 na1 na2 na3 na4 na5 qa1 qa2 qa3 qa4 qa5 ql8 q5 hra hrd17
    refine ⟨l8, rfl, ⟨_, SqL.of fl8⟩, fun D9 nD9 => ?_⟩
    refine lc_it walk_list (fun i H7 => ∃ qs : List Addr, qs.length = i ∧ InvC hl8 (mask d c hl8) D9 qs H7) ⟨[], rfl, InvC.nil nD9⟩ (fun i H7 _ z => SqL.of (z.choose_spec.2.1 _ _ fl8)) ?_ ?_
    · rintro i y H7x H7 hi ⟨qs, lq, inv⟩ ⟨rfl, hy⟩
      refine ⟨rfl, _, rfl, _, rfl, _, rfl, _, rfl, (by show 4 ≤ sizeLine; decide), fun q nq => ?_⟩
      obtain ⟨h1, h2⟩ := inv.step nD9 nq (nb.ps nl) (nb.pe nl) (nb.pp nl) (px y (List.mem_of_getElem? hy))
      have : i < 6 := hi
      exact ⟨_, h1, small1000 (by rw [List.length_map]; omega), qs ++ [q], by rw [List.length_append, lq]; rfl, h2⟩
    rintro H19 ⟨qs10, lq10, inv10⟩
    have S19 := S5.same inv10.1
    have lq10 : qs10.length = 6 := lq10
    have cs := candsA (cs.same (sub_same inv10.1)) (inv10.end_ S5)
    refine ⟨L6, D9, _, _, rfl, rfl, inv10.1 _ _ hL18, inv10.2.1, le1000 (by rw [List.length_map, List.length_map]; omega), fun p np => ?_⟩
    have q := same_new (o := .lst (qs9.map V.ref ++ qs10.map V.ref)) np
    exact k p (qs9 ++ qs10) _ (S19.same q) ((K18.trans (Keep.of inv10.1)).trans (Keep.of q)) (by rw [upd_same, List.map_append]) (cs.same (sub_same q)) (by rw [List.length_append]; omega)
end
end L15
namespace L15
open PySem PySem.Spec L2 Rt Rs Ld
open PyProof.Rows hiding St
open LamX

abbrev sSame : Stmt := top 37
def spSame : Sp := fun vs H Q _ => ∃ (D q ba ea ra : Addr) (L M : LP) (F G : Int → Int), vs = [.ref D, .ref q] ∧ DL H D M.f M.s M.g M.r M.n (rowOf M G) ∧ H q = some (.tup [.ref ba, .ref ea, .int L.n, .ref ra]) ∧ H ba = some (.tup [.int L.f, .int L.s]) ∧ H ea = some (.tup [.int L.g, .int L.r]) ∧ Row2 H ra ((rowOf L F).map V.int) ∧ 0 < L.s ∧ 0 < L.r ∧
  ∀ H', Same H H' → Q (.bl (eqL L M F G)) H'
section
variable {P : Program} {w : World} {K : PySem.W.Frag} {mg : Str → Option Value} {base : Heap} {f C : Addr} {fd : FuncData}

theorem scSame : FnScope ["lead", "some", "clock", "other"] ["lead", "some"] (defScope sSame) := ⟨rfl, rfl, rfl, by decide +kernel, rfl, by decide +kernel, by decide +kernel⟩
theorem ok_same (F : Fun K "_law_is_same" "_law_is_same" sSame f fd) (T : Wds mg) (cOn : Cb P w K mg base 2 "_law_is_on" spOn) : FnG P w K mg base 3 f fd ["lead", "some"] spSame := by
  refine okG F scSame (fun vs H Q E h => ?_) (fun cdv A outer s H vs Q E hg hr h => ?_)
  · obtain ⟨D, q, ba, ea, ra, L, M, F, G, rfl, _⟩ := h
    rfl
  · obtain ⟨D, q, ba, ea, ra, L, M, F, G, rfl, dl, hq, hb, he, hr2, s0, r0, k⟩ := h
    have hu := hu_of hr
    have hu64 := hr.units
    refine ⟨_, (pss_cons (ps_for PassesOwn.never rfl (pi_list (pe_lst (pa_cons (pe_tup (pa_cons (pe_ix ix_tup (pv 1) pe_int (fun _ _ => rfl)) (pa_cons (pe_dget hu (pv 0) pe_str (fun _ _ => rfl)) pa_nil))) (pa_cons (pe_tup (pa_cons (pe_ix ix_tup (pv 1) pe_int (fun _ _ => rfl)) (pa_cons (pe_dget hu (pv 0) pe_str (fun _ _ => rfl)) pa_nil))) pa_nil)))) (pg_tup (by rfl) (pgs_cons (pg_name (i := 2) scSame.nd rfl (.inl rfl)) (pgs_cons (pg_name (i := 3) scSame.nd rfl (.inl rfl)) pgs_nil)))
        (pss_one (ps_if (PW.pt (pw_or (pt_cmpR op_ne (pe_ix ix_tup (pv 2) pe_int (fun _ _ => rfl)) (pe_ix ix_tup (pv 3) pe_int (fun _ _ => rfl)) (nomark _)) (pw_or1 (pt_not (pt_val (pe_k cOn hg hr (by decide) (by rfl) (pa_cons (pv 2) (pa_cons (pe_ix ix_tup (pv 3) pe_int (fun _ _ => rfl)) pa_nil)))))))) (pss_one (ps_ret pe_bl)) pss_nil)))
      (pss_one (ps_ret (pe_and (pe_cmpR op_eq (pe_ix ix_tup (pv 1) pe_int (fun _ _ => rfl)) (pe_dget hu (pv 0) pe_str (fun _ _ => rfl)) (nomark _)) (pe_one (pe_cmpR (op_eqD hu64) (pe_callTy call_list_of (by rfl) T.zlist (by decide +kernel) (pa_cons (pe_ix ix_tup (pv 1) pe_int (fun _ _ => rfl)) pa_nil)) (pe_dget hu (pv 0) pe_str (fun _ _ => rfl)) (nomark _))))))), ?_⟩
    obtain ⟨kvs, sd, ed, rd, h0, w1, w2, w3, w4, h5, h6, h7⟩ := dl.ex
    have hD := fun {x : Str} {v : V} (e : valV kvs (Sum.inr x) = some v) => dgetK h0 e
    refine ⟨_, rfl, q, _, 0, _, rfl, rfl, SqT.of hq, rfl, _, rfl, D, _, rfl, hD w1, (by show 2 ≤ sizeLine; decide), fun t0 nt0 => ?_⟩
    have q0 := same_new (o := .tup [.ref ba, .ref sd]) nt0
    have f0 := upd_same (H := H) (a := t0) (o := .tup [.ref ba, .ref sd])
    revert q0 f0
    generalize upd H t0 (.tup [.ref ba, .ref sd]) = H0
    intro q0 f0
    refine ⟨_, rfl, q, _, 1, _, rfl, rfl, SqT.of (q0 _ _ hq), rfl, _, rfl, D, _, rfl, dgetK (q0 _ _ h0) w2, (by show 2 ≤ sizeLine; decide), fun t1 nt1 => ?_⟩
    have q1 := same_new (o := .tup [.ref ea, .ref ed]) nt1
    have f1 := upd_same (H := H0) (a := t1) (o := .tup [.ref ea, .ref ed])
    revert q1 f1
    generalize upd H0 t1 (.tup [.ref ea, .ref ed]) = H1
    intro q1 f1
    refine ⟨(by show 2 ≤ sizeLine; decide), fun l nl => ⟨l, rfl, ⟨_, SqL.of upd_same⟩, ?_⟩⟩
    have q2 := same_new (o := .lst [.ref t0, .ref t1]) nl
    have fl := upd_same (H := H1) (a := l) (o := .lst [.ref t0, .ref t1])
    revert q2 fl
    generalize upd H1 l (.lst [.ref t0, .ref t1]) = H2
    intro q2 fl
    have s2 := (q0.trans q1).trans q2
    have f0 := q2 _ _ (q1 _ _ f0)
    have f1 := q2 _ _ f1
    refine for_it walk_list (fun i σ H3 => ∃ (v2 v3 : Option V), σ = [some (.ref D), some (.ref q), v2, v3] ∧ Same H2 H3 ∧ (0 < i → (decide (L.s = M.s) && decide ((M.f - L.f) % L.s = 0)) = true) ∧ (1 < i → (decide (L.r = M.r) && decide ((M.g - L.g) % L.r = 0)) = true))
      ⟨_, _, rfl, Same.refl _, fun z => absurd z (by omega), fun z => absurd z (by omega)⟩ (fun i σ H3 _ z => SqL.of (z.choose_spec.choose_spec.2.1 _ _ fl)) ?_ ?_
    · rintro i y σ H3x H3 hi ⟨v2, v3, rfl, s3, c1, c2⟩ ⟨rfl, hy⟩
      have s23 := s2.trans s3
      match i, hy, c1, c2 with
      | 0, hy, c1, c2 =>
        cases (Option.some.inj hy)
        refine ⟨t0, _, rfl, SqT.of (s3 _ _ f0), rfl, _, _, rfl, _, _, rfl, rfl, ?_⟩
        refine ⟨_, rfl, ba, _, 1, _, rfl, rfl, SqT.of (s23 _ _ hb), rfl, _, rfl, sd, _, 1, _, rfl, rfl, SqT.of (s23 _ _ h5), rfl, rfl, ?_⟩
        rw [dec_V]
        by_cases e : L.s = M.s
        · rw [decide_eq_true e]
          refine ⟨_, rfl, iteF ?_⟩
          refine ⟨_, rfl, _, rfl, sd, _, 0, _, rfl, rfl, SqT.of (s23 _ _ h5), rfl, ba, L.f, L.s, .int M.f, rfl, s23 _ _ hb, s0, True.intro, onB L.f L.s (.int M.f), rfl, ?_⟩
          cases ob : onB L.f L.s (.int M.f) with
          | true =>
            refine iteF ⟨_, _, rfl, s3, fun _ => ?_, fun z => absurd z (by omega)⟩
            exact ob
          | false =>
            refine iteT ?_
            have z := k H3 s23
            unfold eqL at z
            rw [decide_eq_true e, show decide ((M.f - L.f) % L.s = 0) = false from ob, Bool.and_false, Bool.false_and, Bool.false_and] at z
            exact z
        · rw [decide_eq_false e]
          refine ⟨_, rfl, iteT ?_⟩
          have z := k H3 s23
          unfold eqL at z
          rw [decide_eq_false e, Bool.false_and, Bool.false_and, Bool.false_and] at z
          exact z
      | 1, hy, c1, c2 =>
        cases (Option.some.inj hy)
        refine ⟨t1, _, rfl, SqT.of (s3 _ _ f1), rfl, _, _, rfl, _, _, rfl, rfl, ?_⟩
        refine ⟨_, rfl, ea, _, 1, _, rfl, rfl, SqT.of (s23 _ _ he), rfl, _, rfl, ed, _, 1, _, rfl, rfl, SqT.of (s23 _ _ h6), rfl, rfl, ?_⟩
        rw [dec_V]
        have c1 := c1 (by omega)
        by_cases e : L.r = M.r
        · rw [decide_eq_true e]
          refine ⟨_, rfl, iteF ?_⟩
          refine ⟨_, rfl, _, rfl, ed, _, 0, _, rfl, rfl, SqT.of (s23 _ _ h6), rfl, ea, L.g, L.r, .int M.g, rfl, s23 _ _ he, r0, True.intro, onB L.g L.r (.int M.g), rfl, ?_⟩
          cases ob : onB L.g L.r (.int M.g) with
          | true =>
            refine iteF ⟨_, _, rfl, s3, fun _ => c1, fun _ => ?_⟩
            exact ob
          | false =>
            refine iteT ?_
            have z := k H3 s23
            unfold eqL at z
            rw [c1, decide_eq_true e, show decide ((M.g - L.g) % L.r = 0) = false from ob, Bool.and_false, Bool.and_false, Bool.false_and] at z
            exact z
        · rw [decide_eq_false e]
          refine ⟨_, rfl, iteT ?_⟩
          have z := k H3 s23
          unfold eqL at z
          rw [c1, decide_eq_false e, Bool.false_and, Bool.and_false, Bool.false_and] at z
          exact z
    · rintro σ H3 ⟨v2, v3, rfl, s3, c1, c2⟩
      have s23 := s2.trans s3
      have c1 := c1 (by show 0 < 2; decide)
      have c2 := c2 (by show 1 < 2; decide)
      unfold eqL at k
      rw [c1, c2] at k
      refine ⟨_, rfl, q, _, 2, _, rfl, rfl, SqT.of (s23 _ _ hq), rfl, _, rfl, D, _, rfl, dgetK (s23 _ _ h0) w3, rfl, ?_⟩
      rw [dec_V]
      cases e3 : decide (L.n = M.n) with
      | false =>
        rw [e3] at k
        exact ⟨_, rfl, iteF (k H3 s23)⟩
      | true =>
        rw [e3] at k
        refine ⟨_, rfl, iteT ?_⟩
        have fin : ∀ (a : Addr) (H4 : Hp), Same H3 H4 → H4 a = some (.lst ((rowOf L F).map V.int)) → ∃ d e, Dp K H4 (.ref a) d ∧ Dp K H4 (.ref rd) e ∧ SeqAt.shaped d = true ∧ SeqAt.shaped e = true ∧ Q (.bl (PyData.eqv d e)) H4 := fun a H4 s4 ha => by
          refine ⟨.list ((rowOf L F).map PyData.int), .list ((rowOf M G).map PyData.int), .lst (SqL.of ha) (dpAll_ints _), .lst (SqL.of (s4 _ _ (s23 _ _ h7))) (dpAll_ints _), shaped_ints _, shaped_ints _, ?_⟩
          rw [eqv_ints]
          exact k H4 (s23.trans s4)
        rcases hr2.same s23 with hr3 | hr3
        · refine ⟨_, rfl, q, _, 3, _, rfl, rfl, SqT.of (s23 _ _ hq), rfl, ra, _, rfl, .inl (SqL.of hr3), fun a na => ?_⟩
          refine ⟨_, rfl, D, _, rfl, dgetK ((s23.trans (same_new na)) _ _ h0) w4, fin a _ (same_new na) upd_same⟩
        · refine ⟨_, rfl, q, _, 3, _, rfl, rfl, SqT.of (s23 _ _ hq), rfl, ra, _, rfl, .inr (SqT.of hr3), fun a na => ?_⟩
          refine ⟨_, rfl, D, _, rfl, dgetK ((s23.trans (same_new na)) _ _ h0) w4, fin a _ (same_new na) upd_same⟩
end
end L15
namespace Rt
open PySem PySem.Spec L2
open PyProof.Rows hiding St
/-! ### range(a, b) of any integers -/
theorem turn_long {P : Program} {w : World} {K : PySem.W.Frag} {tg : Expr} (it : Addr) (lo : Int) (n : Nat) : Turn P w K tg (Itr lo n) [it] it (fun i h => IsLongIter h it (lo + (i : Nat) * 1) ((n : Int) - (i : Nat)) 1) where
  mem := by simp
  obj := fun i h st b hb => by
    have e : b = it := by simpa using hb
    subst e
    exact ⟨_, st, fun v z => by
      have z' : Data.fields _ = Data.cell v := z
      cases z'⟩
  keep := fun i h h' st k => k it (by simp) _ st
  item := by
    intro X hP hw hK hc i pins s σ H E I hf st hg
    subst hP hw hK
    obtain ⟨f0, f1, f2, f3, f4, f5⟩ := hf it (by simp)
    have W := Walks.longrange (prog := X.prog) (w := X.w) (I.ok.hd hc) it lo 1 n
    refine W.item i s _ _ hg st fun v h' tk hv st' kk => ?_
    obtain ⟨t, rfl⟩ := hv
    have I1 : Inv X pins σ H { s with heap := h', toks := tk } := I.turned (fun b o hb e => kk b o (by simpa using hb) e) f0 f1 f3 f4 f5
    refine ⟨_, rfl, go_of (s := { s with heap := h', toks := tk }) (n := "longrange_iterator") st' rfl rfl (by decide) ⟨.int (lo + i), H, I1, ⟨t, ?_⟩, ⟨rfl, rfl⟩, st', fun b hb => (hf b hb).1⟩⟩
    rw [Int.mul_one]
  done := by
    intro X hP hw hK hc i pins s σ H E I hf st hg
    subst hP hw hK
    obtain ⟨f0, f1, f2, f3, f4, f5⟩ := hf it (by simp)
    exact wpAny_pyNext_long_end (I.ok.hd hc) st (by have : n ≤ i := hg; omega) fun h' eb => ⟨rfl, I.turned (t' := s.toks) (fun b o hb e => eb b o hb e) f0 f1 f3 f4 f5⟩
  self := fun _ _ _ _ _ st h => wpAny_pyIter_longiter st h
theorem range_any {X : Cx} {tg : Expr} {pins : List (Addr × Obj)} {σ : L2.St} {H : Hp} {s : Shared} {R : It → Hp → Prop} {E : Value → Shared → Prop} {lo hi : Int} {t u v : Tok} {tk : Nat} (I : Inv X pins σ H s)
    (q : R (Itr lo (hi - lo).toNat) H) : wpAny (model X.prog X.w) X.A (pyIter (.ref s.heap.objs.size)) (PIE X pins σ tg R) E { s with heap := s.heap.push { cls := .type "range", data := .fields #[.int lo t, .int hi u, .int 1 v] }, toks := tk } := by
  have I1 : Inv X pins σ H { s with heap := s.heap.push { cls := .type "range", data := .fields #[.int lo t, .int hi u, .int 1 v] }, toks := tk } := I.kept fun b o e => Heap.get?_push_of_some _ e
  have e1 : lo + ((0 : Nat) : Int) * 1 = lo := by simp
  have e2 : (((hi - lo).toNat : Nat) : Int) - ((0 : Nat) : Int) = Builtin.Range.rangeSize lo hi 1 := by rw [rangeSize_one]; split <;> omega
  by_cases hsm : Builtin.Range.small lo hi 1 = true
  · refine wpAny_pyIter_range (IsRange.new ..) hsm ?_
    refine ⟨(s.heap.push { cls := .type "range", data := .fields #[.int lo t, .int hi u, .int 1 v] }).objs.size, [(s.heap.push { cls := .type "range", data := .fields #[.int lo t, .int hi u, .int 1 v] }).objs.size], _, _, H, rfl,
      I1.kept (t' := tk) fun b o e => Heap.get?_push_of_some _ e, turn_range _ lo (hi - lo).toNat, ?_, fun b hb => ?_, q⟩
    · show IsRangeIter _ _ (lo + ((0 : Nat) : Int) * 1) ((((hi - lo).toNat : Nat) : Int) - ((0 : Nat) : Int)) 1
      rw [e1, e2]
      exact Heap.get?_push_size _ rfl
    · have e : b = (s.heap.push { cls := .type "range", data := .fields #[.int lo t, .int hi u, .int 1 v] }).objs.size := by simpa using hb
      subst e
      exact I1.fpOk (Nat.le_refl _) (I1.hok.fresh (Nat.le_refl _))
  · refine wpAny_pyIter_longrange (IsRange.new ..) (by simpa using hsm) ?_
    refine ⟨(s.heap.push { cls := .type "range", data := .fields #[.int lo t, .int hi u, .int 1 v] }).objs.size, [(s.heap.push { cls := .type "range", data := .fields #[.int lo t, .int hi u, .int 1 v] }).objs.size], _, _, H, rfl,
      I1.kept (t' := tk) fun b o e => Heap.get?_push_of_some _ e, turn_long _ lo (hi - lo).toNat, ?_, fun b hb => ?_, q⟩
    · show IsLongIter _ _ (lo + ((0 : Nat) : Int) * 1) ((((hi - lo).toNat : Nat) : Int) - ((0 : Nat) : Int)) 1
      rw [e1, e2]
      exact Heap.get?_push_size _ rfl
    · have e : b = (s.heap.push { cls := .type "range", data := .fields #[.int lo t, .int hi u, .int 1 v] }).objs.size := by simpa using hb
      subst e
      exact I1.fpOk (Nat.le_refl _) (I1.hok.fresh (Nat.le_refl _))
def iRng2A (ta : TA) : TI := fun σ H R => ta σ H fun vs H1 => ∃ i j : Int, vs = [.int i, .int j] ∧ R (Itr i (j - i).toNat) H1
theorem pi_rangeA {X : Cx} {tg : Expr} {a b : Expr} {ta : TA} {p pos : Pos} (hg : Gl X "range") (hm : X.mg "range" = none) (ha : PA X [a, b] ta) (hs : starEach [a, b] X.env = [(false, eval a X.env), (false, eval b X.env)] := by rfl) (hs2 : starEach [b] X.env = [(false, eval b X.env)] := by rfl) :
    PI X tg (.Call (.Name "range" p) [a, b] [] pos) (iRng2A ta) := by
  refine ⟨fun pins s σ H R I h => ?_⟩
  refine Call_ (ld_blt I hg hm boot_range (PyProof.Rows.callWith_type1 (thn (ha.run pos pins s σ H _ I h) fun us s1 ⟨vs, H1, I1, r1, q1⟩ => ?_) (by rw [hs, hs2]) (by rw [hs2]; rfl)))
  obtain ⟨i, j, e, q⟩ := q1
  subst e
  cases r1 with
  | cons r rr =>
    cases rr with
    | cons r' rr =>
      cases rr
      obtain ⟨t, rfl⟩ := r
      obtain ⟨t', rfl⟩ := r'
      exact call_range_2 (range_any I1 q)
end Rt
namespace L15
open PySem PySem.Spec L2 Rt Rs Ld
open PyProof.Rows hiding St
open LamX

abbrev sLaw : Stmt := top 38
def lamT (P1 : Addr) : List (Addr × Str) := [(P1, ("law" : Str) ++ ".<locals>." ++ "<lambda>")]
theorem lam_one {P1 : Addr} : ∀ p ∈ lamT P1, p.1 = P1 → p.2 = ("law" : Str) ++ ".<locals>." ++ "<lambda>" := fun p m e => by
  cases List.mem_singleton.mp m
  rfl
theorem code_not {c : Addr} {q : Str} {o : HO} (h : ∀ φ, o ≠ .ext φ) : CodeO c q ≠ o := fun z => by
  unfold CodeO at z
  exact h _ z.symm
theorem tabs_keep {T : List (Addr × Str)} {H H' : Hp} {d c : Addr} (t : Tabs T H) (S : Src H d c) (k : Keep d c H H') : Tabs T H' := fun p hp => by
  obtain ⟨ps, h1, h2, h3⟩ := t p hp
  obtain ⟨ks, l, m, n, q1, q2⟩ := S.ex
  refine ⟨ps, k _ _ h1 (ne_of h1 q1 (by intro z; cases z)) (ne_of h1 q2 (by intro z; cases z)), h2, fun pos cv hc => ?_⟩
  obtain ⟨c0, e1, e2⟩ := h3 pos cv hc
  exact ⟨c0, e1, k _ _ e2 (ne_of e2 q1 (code_not (by nofun))) (ne_of e2 q2 (code_not (by nofun)))⟩
theorem src_ext {H H' : Hp} {d c : Addr} (S : Src H d c) (e : ExtN H H') : Src H' d c := by
  obtain ⟨ks, l, m, n, q1, q2⟩ := S.ex
  exact ⟨ks, l, m, n, e _ _ q1 (fun ps z => by cases z), e _ _ q2 (fun ps z => by cases z)⟩
theorem msk_ne {H : Hp} {d c b : Addr} {o : HO} (h : mask d c H b = some o) : b ≠ d ∧ b ≠ c := by
  unfold mask at h
  refine ⟨fun z => ?_, fun z => ?_⟩
  · rw [if_pos (.inl z)] at h
    cases h
  · rw [if_pos (.inr z)] at h
    cases h
theorem mask_ext {H H' : Hp} {d c : Addr} (e : ExtN H H') : ExtN (mask d c H) (mask d c H') := fun b u z n => mask_at (msk_ne z) (e _ _ (mask_same _ _ z) n)
/-- a heap in which all but source and tables stays goes on as one in which all but tables does, under the mask -/
theorem mask_keepN {H H' : Hp} {d c : Addr} (e : KeepN d c H H') : ExtN (mask d c H) (mask d c H') := fun b u z n => mask_at (msk_ne z) (e _ _ (mask_same _ _ z) (msk_ne z).1 (msk_ne z).2 n)
theorem LdAt.ext {H H' : Hp} {C a : Addr} {L : LP} {F : Int → Int} (h : LdAt H C a L F) (e : ExtN H H') : LdAt H' C a L F := by
  obtain ⟨dx, sa, ea, ra, q1, q2, q3, q4⟩ := h.ex
  exact ⟨dx, sa, ea, ra, e _ _ q1 (by nofun), e _ _ q2 (by nofun), e _ _ q3 (by nofun), e _ _ q4 (by nofun)⟩
/-- what stands all through a lap -/
structure W5 (C d c st et D x P1 : Addr) (L : LP) (F : Int → Int) (H : Hp) : Prop where
  S : Src H d c
  tabs : Tabs (lamT P1) H
  mst : mask d c H st = some (.tup [.int L.f, .int L.s])
  met : mask d c H et = some (.tup [.int L.g, .int L.r])
  dm : ∃ sd ed rd, mask d c H D = some (.dK (ldK sd ed L.n rd x)) ∧ mask d c H sd = some (.tup [.int L.f, .int L.s]) ∧ mask d c H ed = some (.tup [.int L.g, .int L.r]) ∧ mask d c H rd = some (.lst ((rowOf L F).map V.int))
  ld : LdAt (mask d c H) C x L F
section
variable {C d c st et D x P1 : Addr} {L : LP} {F : Int → Int} {H H' : Hp}
theorem W5.extN (w : W5 C d c st et D x P1 L F H) (e : ExtN (mask d c H) (mask d c H')) (S : Src H' d c) (t : Tabs (lamT P1) H') : W5 C d c st et D x P1 L F H' := by
  obtain ⟨sd, ed, rd, h1, h2, h3, h4⟩ := w.dm
  exact ⟨S, t, e _ _ w.mst (by nofun), e _ _ w.met (by nofun), ⟨sd, ed, rd, e _ _ h1 (by nofun), e _ _ h2 (by nofun), e _ _ h3 (by nofun), e _ _ h4 (by nofun)⟩, LdAt.ext w.ld e⟩
theorem W5.ext (w : W5 C d c st et D x P1 L F H) (e : ExtN H H') (t : Tabs (lamT P1) H') : W5 C d c st et D x P1 L F H' := w.extN (mask_ext e) (src_ext w.S e) t
theorem W5.keep (w : W5 C d c st et D x P1 L F H) (k : Keep d c H H') (S : Src H' d c) : W5 C d c st et D x P1 L F H' := w.extN (ExtN.of_same (mask_keep k)) S (tabs_keep w.tabs w.S k)
theorem W5.same (w : W5 C d c st et D x P1 L F H) (s : Same H H') : W5 C d c st et D x P1 L F H' := w.keep (Keep.of s) (w.S.same s)
theorem W5.new {p : Addr} {o : HO} (w : W5 C d c st et D x P1 L F H) (h : H p = none) : W5 C d c st et D x P1 L F (upd H p o) := w.same (same_new h)
theorem W5.dl (w : W5 C d c st et D x P1 L F H) : DL H D L.f L.s L.g L.r L.n (rowOf L F) := by
  obtain ⟨sd, ed, rd, h1, h2, h3, h4⟩ := w.dm
  exact ⟨_, sd, ed, rd, mask_same _ _ h1, w_start, w_end, w_period, w_row, mask_same _ _ h2, mask_same _ _ h3, mask_same _ _ h4⟩
theorem W5.at_ (w : W5 C d c st et D x P1 L F H) : LdAt H C x L F := w.ld.same mask_same
theorem W5.hst (w : W5 C d c st et D x P1 L F H) : H st = some (.tup [.int L.f, .int L.s]) := mask_same _ _ w.mst
theorem W5.het (w : W5 C d c st et D x P1 L F H) : H et = some (.tup [.int L.g, .int L.r]) := mask_same _ _ w.met
end
theorem Sml.big {L : LP} {F : Int → Int} (s : Sml L F) (f : L.f.natAbs < 10 ^ 31) (g : L.g.natAbs < 10 ^ 31) : Big L F := ⟨by omega, by omega, fun v hv => by have := s.sm v hv; omega⟩
theorem nl_of {L : LP} {F : Int → Int} (p : PerOk L) (s : Sml L F) (ok : LOk L F) (f : L.f.natAbs < 10 ^ 31) (g : L.g.natAbs < 10 ^ 31) : NL L (rowOf L F) := by
  refine ⟨p.s0, p.s1, p.r0, p.r1, p.n0, p.n1, f, g, by rw [row_len]; exact ok.pos, ?_, fun z m => ?_⟩
  · rw [row_len]
    have n0 := p.n0
    have n1 := p.n1
    have := Int.ediv_le_self L.s (show 0 ≤ L.n by omega)
    omega
  · obtain ⟨v, hv, rfl⟩ := List.mem_map.mp m
    exact s.sm v hv
def ckD (f s g r : Int) : PyData := .list [.tuple [.int f, .int s], .tuple [.int g, .int r]]
theorem ckD_eqv {f s g r : Int} : PyData.eqv (ckD f s g r) (ckD f s g r) = true := by simp [ckD, PyData.eqv, PyData.eqvAll]
theorem ckD_shaped {f s g r : Int} : SeqAt.shaped (ckD f s g r) = true := by
  unfold ckD SeqAt.shaped
  simp [PyData.canLay0, PyData.canLayAll0, PyData.depth, PyData.depthAll]
theorem mk_ok2 {H1 : Hp} {C x dx p b e : Addr} {L : LP} {F : Int → Int} {R : Hp → Prop} {n : Int} (nx : H1 x = none) (ndx : H1 dx = none) (ne : dx ≠ x) (en : n = L.n) (hp : H1 p = some (.lst ((rowOf L F).map V.int))) (hb : H1 b = some (.tup [.int L.f, .int L.s])) (he : H1 e = some (.tup [.int L.g, .int L.r])) (ok : LOk L F)
    (k : ∀ H', Same H1 H' → LdAt H' C x L F → R H') : spInit C [.ref x, .ref b, .ref e, .int n, .ref p] (upd (upd H1 dx (.own x)) x (.ins C dx [])) (fun v H2 => v = .non ∧ R H2) E0 := by
  subst en
  exact mk_ok (Q := fun _ H => R H) nx ndx ne hp hb he ok k
theorem ld_put {H : Hp} {C a l : Addr} {L : LP} {F : Int → Int} {xs : List V} {o : HO} (h : LdAt H C a L F) (hl : H l = some (.lst xs)) : LdAt (upd H l o) C a L F := by
  obtain ⟨dx, sa, ea, ra, q1, q2, q3, q4⟩ := h.ex
  exact ⟨dx, sa, ea, ra, by rw [upd_ne (ne_of q1 hl nofun)]; exact q1, by rw [upd_ne (ne_of q2 hl nofun)]; exact q2, by rw [upd_ne (ne_of q3 hl nofun)]; exact q3, by rw [upd_ne (ne_of q4 hl nofun)]; exact q4⟩
theorem Fit.one {d : PyData} (h : Fit d) : d.showable = true ∧ d.depth ≤ 60 ∧ d.shown.length ≤ sizeLine := ⟨h.sh, Nat.le_trans h.dp (by decide), Nat.le_trans h.ln (by rw [sizeLine_eq]; decide)⟩
theorem fit_row {L : LP} {ks : List Int} (l : NL L ks) : Fit (.list (ks.map PyData.int)) := fit_lst (fun d m => by
  obtain ⟨z, hz, rfl⟩ := List.mem_map.mp m
  have := l.sm z hz
  exact sm_int (by omega)) (by rw [List.length_map]; have := l.len; omega)
theorem _root_.Ld.Sem.rok {f s g r n : Int} {F : Int → Int} (h : Sem f s g r n F) (h' : Int) : Rok h' s g r n ((nums f s n).map F) := by
  refine ⟨h.s0, h.r0, h.n0, h.sd, h.rd, by rw [List.length_map, nums_len], fun x m => ?_, ?_, fun x y mx my => ?_⟩
  · obtain ⟨v, hv, rfl⟩ := List.mem_map.mp m
    exact h.on _ (nums_on h.s0 h.sd hv)
  · refine List.pairwise_map.mpr ((nums_sorted f n h.s0).imp_of_mem fun {a b} ma mb lt => ?_)
    exact h.mono _ _ (nums_on h.s0 h.sd ma) (nums_on h.s0 h.sd mb) (Int.le_of_lt lt)
  · obtain ⟨v, hv, rfl⟩ := List.mem_map.mp mx
    obtain ⟨u, hu, rfl⟩ := List.mem_map.mp my
    have mv := (mem_nums h.s0 h.sd).mp hv
    have mu := (mem_nums h.s0 h.sd).mp hu
    have q := h.mono u (v + n) mu.2.2 (on_add h.sd mv.2.2) (by omega)
    rw [h.per _ mv.2.2] at q
    exact q
def b5D : PyData := .list [.bool true, .bool true, .bool false, .bool false, .bool true]
theorem b5_fit : Fit b5D := by
  unfold b5D
  refine fit_lst (fun d m => ?_) (by show 5 ≤ 200; decide)
  simp only [List.mem_cons, List.not_mem_nil, or_false] at m
  rcases m with rfl | rfl | rfl | rfl | rfl <;> exact sm_bool _
def b3D : PyData := .list [.bool false, .bool false, .bool true]
theorem b3_eqv : PyData.eqv b3D b3D = true := by decide +kernel
theorem b3_shaped : SeqAt.shaped b3D = true := by decide +kernel
theorem eqL_off {L M : LP} {F G : Int → Int} (h : ¬ (M.f - L.f) % L.s = 0) : eqL L M F G = false := by
  unfold eqL
  rw [decide_eq_false h, Bool.and_false, Bool.false_and, Bool.false_and]
theorem W5.dmx {C d c st et D x P1 : Addr} {L : LP} {F : Int → Int} {H : Hp} (w : W5 C d c st et D x P1 L F H) : DM (mask d c H) C D L F := by
  obtain ⟨sd, ed, rd, h1, h2, h3, h4⟩ := w.dm
  exact ⟨sd, ed, rd, x, h1, h2, h3, h4, w.ld⟩
theorem seq_one {d : PyData} {ds : List PyData} (h : Fit d) (e : seqD d = some ds) : (PyData.list ds).showable = true ∧ (PyData.list ds).depth ≤ 60 ∧ (PyData.list ds).shown.length ≤ sizeLine := by
  cases d with
  | list es => cases e; exact h.one
  | tuple es =>
    cases e
    have a := h.sh
    have b := h.dp
    have c := h.ln
    refine ⟨by simpa only [PyData.showable] using a, by simp only [PyData.depth] at b ⊢; omega, ?_⟩
    simp only [PyData.shown] at c ⊢
    have p := piled_le_tupleText (PyData.shownAll ds)
    have l := listText_len_le (PyData.shownAll ds)
    have s : ((PyData.shownAll ds).map (·.length)).sum + 2 * (PyData.shownAll ds).length = piled (PyData.shownAll ds) := by
      generalize PyData.shownAll ds = ts
      induction ts with
      | nil => rfl
      | cons t ts ih =>
        rw [piled_cons, List.map_cons, List.sum_cons, List.length_cons]
        omega
    rw [sizeLine_eq]
    omega
  | _ => cases e
theorem four_one {a b c d : PyData} (ha : Fit a) (hb : Fit b) (hc : Fit c) (hd : Fit d) : (PyData.tuple [a, b, c, d]).showable = true ∧ (PyData.tuple [a, b, c, d]).depth ≤ 60 ∧ (PyData.tuple [a, b, c, d]).shown.length ≤ sizeLine := by
  have a1 := ha.dp; have b1 := hb.dp; have c1 := hc.dp; have d1 := hd.dp
  have a2 := ha.ln; have b2 := hb.ln; have c2 := hc.ln; have d2 := hd.ln
  refine ⟨by simp [PyData.showable, PyData.showableAll, ha.sh, hb.sh, hc.sh, hd.sh], ?_, ?_⟩
  · simp only [PyData.depth, PyData.depthAll]
    omega
  · simp only [PyData.shown, PyData.shownAll]
    refine Nat.le_trans (tupleText_len_le _) ?_
    simp only [List.map_cons, List.map_nil, List.sum_cons, List.sum_nil, List.length_cons, List.length_nil]
    rw [sizeLine_eq]
    omega
theorem Cand.ext {M M' : Hp} {q : Addr} (h : Cand M q) (e : ExtN M M') : Cand M' q := by
  obtain ⟨b, e', p, r, h1, ⟨d1, h2, f2⟩, ⟨d2, h3, f3⟩, ⟨d3, h4, f4⟩, ⟨d4, h5, f5⟩⟩ := h
  exact ⟨b, e', p, r, e _ _ h1 (by nofun), ⟨d1, Pv.ext e _ _ h2, f2⟩, ⟨d2, Pv.ext e _ _ h3, f3⟩, ⟨d3, Pv.ext e _ _ h4, f4⟩, ⟨d4, Pv.ext e _ _ h5, f5⟩⟩
/-- what is told of a lead that is wrong, or not -/
def RetT (H : Hp) (x : Option (List Int)) (v : V) : Prop := match x with
  | none => v = .non
  | some ks => ∃ u q, v = .ref u ∧ H u = some (.tup [.str "refused", .ref q]) ∧ H q = some (.tup (ks.map V.int))
def refD (x : Option (List Int)) : PyData := match x with
  | none => .none
  | some ks => .tuple [.str "refused", .tuple (ks.map PyData.int)]
theorem RetT.dx {K : PySem.W.Frag} {H : Hp} {x : Option (List Int)} {v : V} (h : RetT H x v) : Dx K H v (refD x) := by
  cases x with
  | none => cases (show v = .non from h); exact .non
  | some ks =>
    obtain ⟨u, q, rfl, h1, h2⟩ := h
    exact .tup (SqT.of h1) (.cons (.str _) (.cons (.tup (SqT.of h2) (dxAll_ints ks)) .nil))
theorem refD_one {x : Option (List Int)} (h : ∀ ks, x = some ks → ks.length ≤ 2 ∧ ∀ k, k ∈ ks → k.natAbs < 10 ^ 40) : (refD x).showable = true ∧ (refD x).depth ≤ 60 ∧ (refD x).shown.length ≤ sizeLine := by
  cases x with
  | none => exact (sm_none.fit fun _ z => by cases z).one
  | some ks =>
    obtain ⟨l, b⟩ := h ks rfl
    have f : Fit (.tuple (ks.map PyData.int)) := fit_tup (fun d m => by
      obtain ⟨z, hz, rfl⟩ := List.mem_map.mp m
      exact sm_int (b z hz)) (by rw [List.length_map]; omega)
    have s1 : Sm (.str "refused") := ⟨by decide +kernel, by decide +kernel, by decide +kernel⟩
    have a1 := f.dp; have a2 := f.ln; have b1 := s1.dp; have b2 := s1.ln
    refine ⟨by have a := f.sh; simp only [PyData.showable] at a; simp [refD, PyData.showable, PyData.showableAll, a], ?_, ?_⟩
    · simp only [refD, PyData.depth, PyData.depthAll] at a1 b1 ⊢
      omega
    · simp only [refD, PyData.shown, PyData.shownAll] at a2 b2 ⊢
      refine Nat.le_trans (tupleText_len_le _) ?_
      simp only [List.map_cons, List.map_nil, List.sum_cons, List.sum_nil, List.length_cons, List.length_nil]
      rw [sizeLine_eq]
      omega
theorem rowBad_small {g r n : Int} {ds : List PyData} {ks : List Int} (l : ds.length ≤ 4000) (h : rowBad g r n ds = some ks) : ∀ k, k ∈ ks → k.natAbs < 10 ^ 40 := by
  have bound : ∀ {p : Nat → Bool} {n i k : Nat}, firstNot p i n = some k → k < i + n := fun {p n} => by
    induction n with
    | zero => intro i k h; cases h
    | succ n ih =>
      intro i k h
      rw [firstNot] at h
      split at h
      · have := ih h
        omega
      · cases h
        omega
  unfold rowBad at h
  split at h
  · rename_i k e
    have := bound e
    cases h
    intro z m
    simp only [List.mem_cons, List.not_mem_nil, or_false] at m
    rcases m with rfl | rfl <;> omega
  · split at h
    · rename_i k e
      have := bound e
      cases h
      intro z m
      simp only [List.mem_cons, List.not_mem_nil, or_false] at m
      rcases m with rfl | rfl <;> omega
    · split at h
      · cases h
        intro z m
        simp only [List.mem_cons, List.not_mem_nil, or_false] at m
        rcases m with rfl | rfl <;> omega
      · cases h
theorem badD_small {b e p row : PyData} {ks : List Int} (l : ∀ ds, seqD row = some ds → ds.length ≤ 4000) (h : badD b e p row = some ks) : ks.length ≤ 2 ∧ ∀ k, k ∈ ks → k.natAbs < 10 ^ 40 := by
  refine ⟨badD_len h, ?_⟩
  unfold badD at h
  have one : ∀ {i : Int}, i.natAbs < 10 ^ 40 → ∀ k, k ∈ [i] → k.natAbs < 10 ^ 40 := fun h k m => by
    cases List.mem_singleton.mp m
    exact h
  split at h
  · cases h; exact one (by decide)
  · split at h
    · cases h; exact one (by decide)
    · split at h
      · split at h
        · cases h; exact one (by decide)
        · rename_i e
          split at h
          · exact rowBad_small (l _ e) h
          · cases h; exact one (by decide)
      · cases h; exact one (by decide)
/-- the parts that tell a lead, in the heap -/
theorem parts_of {H : Hp} {b e p rr : V} {dr : PyData} {f s g r n : Int} {ks : List Int} (hb : Pv H b (.tuple [.int f, .int s])) (he : Pv H e (.tuple [.int g, .int r])) (hp : Pv H p (.int n)) (hr : Pv H rr dr) (er : seqD dr = some (ks.map PyData.int)) :
    ∃ ba ea ra, b = .ref ba ∧ e = .ref ea ∧ p = .int n ∧ rr = .ref ra ∧ H ba = some (.tup [.int f, .int s]) ∧ H ea = some (.tup [.int g, .int r]) ∧ Row2 H ra (ks.map V.int) := by
  obtain ⟨ba, rfl, hba⟩ : ∃ ba, b = .ref ba ∧ H ba = some (.tup [.int f, .int s]) := by
    cases hb with
    | tup h a => exact ⟨_, rfl, by rw [h, PvAll.ints (ks := [f, s]) a]; rfl⟩
  obtain ⟨ea, rfl, hea⟩ : ∃ ba, e = .ref ba ∧ H ba = some (.tup [.int g, .int r]) := by
    cases he with
    | tup h a => exact ⟨_, rfl, by rw [h, PvAll.ints (ks := [g, r]) a]; rfl⟩
  obtain rfl : p = .int n := by
    cases hp with
    | int n => rfl
  obtain ⟨ra, rfl, hra⟩ : ∃ ra, rr = .ref ra ∧ Row2 H ra (ks.map V.int) := by
    cases hr with
    | lst h a => cases er; exact ⟨_, rfl, .inl (by rw [h, PvAll.ints a])⟩
    | tup h a => cases er; exact ⟨_, rfl, .inr (by rw [h, PvAll.ints a])⟩
    | _ => cases er
  exact ⟨ba, ea, ra, rfl, rfl, rfl, rfl, hba, hea, hra⟩
theorem od_ext {H H' : Hp} {v : V} (e : ExtN H H') (h : Od H v) : Od H' v := by
  cases v with
  | ref t =>
    obtain ⟨o, T, q, k⟩ := h
    exact ⟨o, T, e _ _ q (fun ps z => by rw [z] at k; cases k), k⟩
  | non => exact True.intro
  | bl b => exact True.intro
  | int i => exact True.intro
  | str x => exact True.intro
  | byt b => exact h.elim
  | flt b => exact h.elim
  | ty n => exact h.elim
theorem Ov.od {M H : Hp} {v : V} (h : Ov M v) (s : Same M H) : Od H v := by
  obtain ⟨d, a, _⟩ := h
  exact (Pv.same s _ _ a).od
theorem log_okB {i : Int} (h : i.natAbs < 10 ^ 31) : i.natAbs.log2 < 1920 := by
  rcases Nat.eq_zero_or_pos i.natAbs with z | z
  · rw [z]
    decide
  · rw [Nat.log2_lt (Nat.ne_of_gt z)]
    exact Nat.lt_trans h (by decide +kernel)
theorem rok5 : Rok 5 3 0 1 6 [10, 14] := ⟨by decide, by decide, by decide, by decide, by decide, by decide +kernel, by decide +kernel, by decide +kernel, fun x y hx hy => by
  simp only [List.mem_cons, List.not_mem_nil, or_false] at hx hy
  rcases hx with rfl | rfl <;> rcases hy with rfl | rfl <;> decide⟩
theorem at5a : valL 3 6 [10, 14] 2 = 10 := by decide +kernel
theorem at5b : valL 3 6 [10, 14] 5 = 14 := by decide +kernel
theorem at5c : valL 3 6 [10, 14] 8 = 16 := by decide +kernel
def endD : PyData := .list [.int 10, .int 14, .int 16, .list [.int 10, .int 14]]
theorem end_eqv : PyData.eqv endD endD = true := by decide +kernel
theorem end_shaped : SeqAt.shaped endD = true := by decide +kernel
def spLaw (K : PySem.W.Frag) (P1 : Addr) : Sp := fun vs H Q _ => ∃ (a : Addr) (ns : List Int), vs = [.ref a] ∧ SqL K H a (ns.map V.int) ∧ ns.length ≤ 63 ∧ Tabs (lamT P1) H ∧ ∀ H', Q (.bl true) H'
section
variable {P : Program} {w : World} {K : PySem.W.Frag} {mg : Str → Option Value} {base : Heap} {f C CW CB c1 P1 : Addr} {fd : FuncData}

theorem scLaw : FnScope ["script", "source", "lap", "period", "steps", "start", "end", "lead", "made", "handed", "other", "told", "late", "some", "kept", "due", "one", "v", "odd"] ["script"] (defScope sLaw) := ⟨rfl, rfl, rfl, by decide +kernel, rfl, by decide +kernel, by decide +kernel⟩
theorem ok_law (F : Fun K "law" "law" sLaw f fd) (ca : CodeAt K f c1) (TB : TabB base mg c1 P1) (T : Wds mg) (zstr : mg "str" = none) (cn : ClsL K C) (M : MethL P w K mg base C) (EF : ExcL K mg CB CW) (aTold : At K mg "_law_told" sTold) (kl : PySem.W.kitOne K (.type "list") (.ref C) = some false) (ki : PySem.W.kitOne K (.type "int") (.ref C) = some false)
    (mEq : Md P w K mg base 4 C "__eq__" (spEqM C)) (mNe : Md P w K mg base 5 C "__ne__" (spNeM C)) (mEqT : Md P w K mg base 4 C "__eq__" (spEqT K C)) (mNeT : Md P w K mg base 5 C "__ne__" (spNeT K C)) (mAt : MdX P w K mg base 3 C "at" (spAtD C CW)) (mk : Mkr P w K mg base 5 C "Lead" (spInit C)) (mk3 : Mkr P w K mg base 5 C "Lead" (spInitN C)) (mk2 : MkrX P w K mg base 5 C "Lead" (spInitD C CB))
    (cSrc : Cb P w K mg base 1 "_law_source" (spSource K)) (cPs : Cb P w K mg base 3 "_law_period_and_steps" spPas) (cCk : Cb P w K mg base 3 "_law_clock" spClock) (cAk : Cb P w K mg base 3 "_law_alike" spLAlike) (cLd : Cb P w K mg base 7 "_law_lead" (spLead C)) (cLk : Cb P w K mg base 4 "_law_is_like" (spLike C)) (cNr : Cb P w K mg base 4 "_law_near" (spNear C))
    (cWr : Cb P w K mg base 3 "_law_wrong" spWLeadD) (cSm : Cb P w K mg base 3 "_law_is_same" spSame) (cOn : Cb P w K mg base 2 "_law_is_on" spOn) (cV : Cb P w K mg base 1 "_law_value" spValue) (cOd : Cb P w K mg base 3 "_law_odd" spOdd) : FnG P w K mg base 11 f fd ["script"] (spLaw K P1) := by
  refine okGc F ca scLaw (fun vs H Q E h => ?_) (fun A outer s H vs Q E hg hr h => ?_)
  · obtain ⟨a, ns, rfl, _⟩ := h
    rfl
  · obtain ⟨a, ns, rfl, hS, hl, tabs, kend⟩ := h
    have hu64 := hr.units
    have hu : _ + 1 < cLine := hu_of hr
    refine ⟨_, (pss_cons (ps_set (i := 1) scLaw.nd rfl (.inl rfl) (pe_k cSrc hg hr (by decide) (by rfl) (pa_cons (pv 0) pa_nil)))
      (pss_cons (ps_for PassesOwn.never rfl (pi_range1 (by rfl) T.zrange (pa_cons pe_int pa_nil)) (pg_name (i := 2) scLaw.nd rfl (.inl rfl))
        (pss_cons (ps_asg (pe_k cPs hg hr (by decide) (by rfl) (pa_cons (pv 1) pa_nil)) (pg_tup (by rfl) (pgs_cons (pg_name (i := 3) scLaw.nd rfl (.inl rfl)) (pgs_cons (pg_name (i := 4) scLaw.nd rfl (.inl rfl)) pgs_nil))))
        (pss_cons (ps_par (i := 5) (j := 6) rfl scLaw.nd rfl rfl (by decide) rfl rfl (pa_cons (pe_k cCk hg hr (by decide) (by rfl) (pa_cons (pv 1) (pa_cons (pv 4) pa_nil))) (pa_cons (pe_k cCk hg hr (by decide) (by rfl) (pa_cons (pv 1) (pa_cons (pv 4) pa_nil))) pa_nil)) (by rfl))
        (pss_cons (ps_set (i := 7) scLaw.nd rfl (.inl rfl) (pe_k cLd hg hr (by decide) (by rfl) (pa_cons (pv 1) (pa_cons (pv 5) (pa_cons (pv 6) (pa_cons (pv 3) pa_nil))))))
        (pss_cons (ps_asg (pe_tup (pa_cons (pe_dget hu (pv 7) pe_str (fun _ _ => rfl)) (pa_cons (pe_callTy call_list_of (by rfl) T.zlist (by decide +kernel) (pa_cons (pe_dget hu (pv 7) pe_str (fun _ _ => rfl)) pa_nil)) pa_nil))) (pg_tup (by rfl) (pgs_cons (pg_name (i := 8) scLaw.nd rfl (.inr rfl)) (pgs_cons (pg_name (i := 9) scLaw.nd rfl (.inl rfl)) pgs_nil))))
        (pss_cons (ps_if (PW.pt (pw_or (pt_not (pt_val (pe_k cLk hg hr (by decide) (by rfl) (pa_cons (pv 7) (pa_cons (pv 8) pa_nil))))) (pw_or1 (pt_cmpR (op_neD hu64) (pe_lst (pa_cons (pe_m0' cn.cls M.start hr (by decide) (pv 8)) (pa_cons (pe_m0' cn.cls M.end_ hr (by decide) (pv 8)) pa_nil))) (pe_lst (pa_cons (pv 5) (pa_cons (pv 6) pa_nil))) (nomark _))))) (pss_one (ps_ret pe_bl)) pss_nil)
        (pss_cons (ps_expr (pe_bm0 PySem.F.plainAttrs_list PySem.F.slot_list_clear PySem.F.type_list_clear mt_clear (pe_m0' cn.cls M.row hr (by decide) (pv 8))))
        (pss_cons (ps_if (pt_not (pt_val (pe_k cLk hg hr (by decide) (by rfl) (pa_cons (pv 7) (pa_cons (pv 8) pa_nil))))) (pss_one (ps_ret pe_bl)) pss_nil)
        (pss_cons (ps_set (i := 10) scLaw.nd rfl (.inl rfl) (pe_mkr mk hr (by decide) (by rfl) (pa_cons (pe_k cAk hg hr (by decide) (by rfl) (pa_cons (pv 1) (pa_cons (pv 5) pa_nil))) (pa_cons (pe_k cAk hg hr (by decide) (by rfl) (pa_cons (pv 1) (pa_cons (pv 6) pa_nil))) (pa_cons (pv 3) (pa_cons (pv 9) pa_nil))))))
        (pss_cons (ps_expr (pe_bm0 PySem.F.plainAttrs_list PySem.F.slot_list_clear PySem.F.type_list_clear mt_clear (pv 9)))
        (pss_cons (ps_if (pt_cmpR op_ne (pe_callB (call_reprX hg hu64) (by rfl) T.zrepr (by decide +kernel) (pa_cons (pe_m0' cn.cls M.row hr (by decide) (pv 10)) pa_nil)) (pe_callB (call_reprX hg hu64) (by rfl) T.zrepr (by decide +kernel) (pa_cons (pe_dget hu (pv 7) pe_str (fun _ _ => rfl)) pa_nil)) (nomark _)) (pss_one (ps_ret pe_bl)) pss_nil)
        (pss_cons (ps_set (i := 11) scLaw.nd rfl (.inl rfl) (pe_lst (pa_cons (pe_cmpR (op_ownEq mEq hr (by decide)) (pv 8) (pv 10) (nomark _)) (pa_cons (pe_cmpR (op_ownEq mEq hr (by decide)) (pv 10) (pv 8) (nomark _)) (pa_cons (pe_cmpR (op_ownNe mNe hr (by decide)) (pv 8) (pv 10) (nomark _)) (pa_cons (pe_cmpR (op_ownEqT (T := "list") mEqT hr (by decide) first_list) (pv 8) (pe_dget hu (pv 7) pe_str (fun _ _ => rfl)) (nomark _)) (pa_cons (pe_cmpR (op_ownNeT (T := "int") mNeT hr (by decide) first_int) (pv 8) pe_int (nomark _)) pa_nil)))))))
        (pss_cons (ps_if (pt_cmpR op_ne (pe_callB (call_reprX hg hu64) (by rfl) T.zrepr (by decide +kernel) (pa_cons (pv 11) pa_nil)) (pe_callB (call_reprX hg hu64) (by rfl) T.zrepr (by decide +kernel) (pa_cons (pe_lst (pa_cons pe_bl (pa_cons pe_bl (pa_cons pe_bl (pa_cons pe_bl (pa_cons pe_bl pa_nil)))))) pa_nil)) (nomark _)) (pss_one (ps_ret pe_bl)) pss_nil)
        (pss_cons (ps_if (pt_cmpR op_gt (pe_ix ix_tup (pv 5) pe_int (fun _ _ => rfl)) pe_int (nomark _)) (pss_cons (ps_set (i := 12) scLaw.nd rfl (.inl rfl) (pe_mkr mk hr (by decide) (by rfl) (pa_cons (pe_tup (pa_cons (pe_op op_add (pe_ix ix_tup (pv 5) pe_int (fun _ _ => rfl)) pe_int) (pa_cons (pe_ix ix_tup (pv 5) pe_int (fun _ _ => rfl)) pa_nil))) (pa_cons (pv 6) (pa_cons (pv 3) (pa_cons (pe_callTy call_list_of (by rfl) T.zlist (by decide +kernel) (pa_cons (pe_dget hu (pv 7) pe_str (fun _ _ => rfl)) pa_nil)) pa_nil))))))
          (pss_one (ps_if (pt_cmpR (op_neD hu64) (pe_lst (pa_cons (pe_cmpR (op_ownEq mEq hr (by decide)) (pv 12) (pv 8) (nomark _)) (pa_cons (pe_cmpR (op_ownEq mEq hr (by decide)) (pv 8) (pv 12) (nomark _)) (pa_cons (pe_cmpR (op_ownNe mNe hr (by decide)) (pv 8) (pv 12) (nomark _)) pa_nil)))) (pe_lst (pa_cons pe_bl (pa_cons pe_bl (pa_cons pe_bl pa_nil)))) (nomark _)) (pss_one (ps_ret pe_bl)) pss_nil))) pss_nil)
        (pss_cons (ps_for PassesOwn.never rfl (pi_list (pe_k cNr hg hr (by decide) (by rfl) (pa_cons (pv 1) (pa_cons (pv 7) pa_nil)))) (pg_name (i := 13) scLaw.nd rfl (.inr rfl))
          (pss_cons (ps_par (i := 14) (j := 15) rfl scLaw.nd rfl rfl (by decide) rfl rfl (pa_cons (pe_callB (call_reprX hg hu64) (by rfl) T.zrepr (by decide +kernel) (pa_cons (pv 13) pa_nil)) (pa_cons (pe_k cWr hg hr (by decide) (by rfl) (pa_cons (pe_ix ix_tup (pv 13) pe_int (fun _ _ => rfl)) (pa_cons (pe_ix ix_tup (pv 13) pe_int (fun _ _ => rfl)) (pa_cons (pe_ix ix_tup (pv 13) pe_int (fun _ _ => rfl)) (pa_cons (pe_ix ix_tup (pv 13) pe_int (fun _ _ => rfl)) pa_nil))))) pa_nil)) (by rfl))
          (pss_cons (ps_set (i := 11) scLaw.nd rfl (.inl rfl) (pe_tells (T := lamT P1) (k := 7) aTold (fun f fd F => F.binds fun _ _ _ _ _ _ us hl => match us, hl with | [_], _ => rfl) scTold rfl (.inl (by rfl)) (fun g cdg => gives_told (k := 9) (hr.mono (by decide)) (by decide) EF) (by rfl) TB rfl List.mem_cons_self lam_one hr (by decide) (lamS_by (by show lamSB (defScope sLaw) _ = true; decide +kernel)) (fun A outer s H E f c' hr2 => pe_mkrX mk2 hr2 (by decide) (by rfl) (takes_of rfl rfl rfl rfl) (fun _ _ _ _ z => z) (pa_cons (pe_ix (ix_tup : IxR _ (rIxT K)) (pv 13) pe_int (fun _ _ => rfl)) (pa_cons (pe_ix (ix_tup : IxR _ (rIxT K)) (pv 13) pe_int (fun _ _ => rfl)) (pa_cons (pe_ix (ix_tup : IxR _ (rIxT K)) (pv 13) pe_int (fun _ _ => rfl)) (pa_cons (pe_ix (ix_tup : IxR _ (rIxT K)) (pv 13) pe_int (fun _ _ => rfl)) pa_nil)))))))
          (pss_cons (ps_if (PW.pt (pw_or (pt_cmpR op_ne (pe_callB (call_reprX hg hu64) (by rfl) T.zrepr (by decide +kernel) (pa_cons (pv 11) pa_nil)) (pe_callB (call_reprX hg hu64) (by rfl) T.zrepr (by decide +kernel) (pa_cons (pe_ifExp (pt_cmpR op_isN (pv 15) pe_non (nomark _)) pe_non (pe_tup (pa_cons pe_str (pa_cons (pv 15) pa_nil)))) pa_nil)) (nomark _)) (pw_or1 (pt_cmpR op_ne (pe_callB (call_reprX hg hu64) (by rfl) T.zrepr (by decide +kernel) (pa_cons (pv 13) pa_nil)) (pv 14) (nomark _))))) (pss_one (ps_ret pe_bl)) pss_nil)
          (pss_one (ps_if (pt_cmpR op_isN (pv 15) pe_non (nomark _)) (pss_cons (ps_set (i := 16) scLaw.nd rfl (.inl rfl) (pe_mkr mk3 hr (by decide) (by rfl) (pa_cons (pe_ix ix_tup (pv 13) pe_int (fun _ _ => rfl)) (pa_cons (pe_ix ix_tup (pv 13) pe_int (fun _ _ => rfl)) (pa_cons (pe_ix ix_tup (pv 13) pe_int (fun _ _ => rfl)) (pa_cons (pe_ix ix_tup (pv 13) pe_int (fun _ _ => rfl)) pa_nil))))))
            (pss_one (ps_if (PW.pt (pw_or (pt_cmpR op_ne (pe_cmpR (op_ownEq mEq hr (by decide)) (pv 16) (pv 8) (nomark _)) (pe_k cSm hg hr (by decide) (by rfl) (pa_cons (pv 7) (pa_cons (pv 13) pa_nil))) (nomark _)) (pw_or1 (pt_cmpR op_ne (pe_callB (call_reprX hg hu64) (by rfl) T.zrepr (by decide +kernel) (pa_cons (pe_m0' cn.cls M.row hr (by decide) (pv 16)) pa_nil)) (pe_callB (call_reprX hg hu64) (by rfl) T.zrepr (by decide +kernel) (pa_cons (pe_callTy call_list_of (by rfl) T.zlist (by decide +kernel) (pa_cons (pe_ix ix_tup (pv 13) pe_int (fun _ _ => rfl)) pa_nil)) pa_nil)) (nomark _))))) (pss_one (ps_ret pe_bl)) pss_nil))) pss_nil))))))
        (pss_cons (ps_for PassesOwn.never rfl (pi_rangeA (by rfl) T.zrange (pa_cons (pe_op op_sub (pe_ix ix_tup (pv 5) pe_int (fun _ _ => rfl)) pe_int) (pa_cons (pe_op op_add (pe_ix ix_tup (pv 5) pe_int (fun _ _ => rfl)) pe_int) pa_nil))) (pg_name (i := 17) scLaw.nd rfl (.inr rfl))
          (pss_cons (ps_if (pt_cmpR op_ne (pe_cmpR op_isN (pe_tells (T := lamT P1) (k := 7) aTold (fun f fd F => F.binds fun _ _ _ _ _ _ us hl => match us, hl with | [_], _ => rfl) scTold rfl (.inl (by rfl)) (fun g cdg => gives_told (k := 9) (hr.mono (by decide)) (by decide) EF) (by rfl) TB rfl List.mem_cons_self lam_one hr (by decide) (lamS_by (by show lamSB (defScope sLaw) _ = true; decide +kernel)) (fun A outer s H E f c' hr2 => pe_mx cn.cls mAt hr2 (by decide) (takes_of rfl rfl rfl rfl) (fun _ _ _ _ z => z) (pv 8) (pa_cons (pv 17) pa_nil))) pe_non (nomark _)) (pe_k cOn hg hr (by decide) (by rfl) (pa_cons (pv 5) (pa_cons (pv 17) pa_nil))) (nomark _)) (pss_one (ps_ret pe_bl)) pss_nil)
          (pss_one (ps_if (PW.pt (pw_and (pt_val (pe_k cOn hg hr (by decide) (by rfl) (pa_cons (pv 5) (pa_cons (pv 17) pa_nil)))) (pw_and1 (pt_cmpR op_ne (pe_m cn.cls M.at_ hr (by decide) (pv 8) (pa_cons (pv 17) pa_nil)) (pe_k cV hg hr (by decide) (by rfl) (pa_cons (pv 7) (pa_cons (pv 17) pa_nil))) (nomark _))))) (pss_one (ps_ret pe_bl)) pss_nil))))
        (pss_one (ps_for PassesOwn.never rfl (pi_list (pe_lst (pa_cons (pe_k cOd hg hr (by decide) (by rfl) (pa_cons (pv 1) pa_nil)) (pa_cons pe_non (pa_cons pe_bl (pa_cons (pe_callTy call_str_int (by rfl) zstr (by decide +kernel) (pa_cons (pe_ix ix_tup (pv 5) pe_int (fun _ _ => rfl)) pa_nil)) (pa_cons (pe_lst (pa_cons (pe_ix ix_tup (pv 5) pe_int (fun _ _ => rfl)) pa_nil)) (pa_cons (pv 5) pa_nil)))))))) (pg_name (i := 18) scLaw.nd rfl (.inr rfl))
          (pss_one (ps_if (pt_cmpR op_ne (pe_cmpR op_isN (pe_tells (T := lamT P1) (k := 7) aTold (fun f fd F => F.binds fun _ _ _ _ _ _ us hl => match us, hl with | [_], _ => rfl) scTold rfl (.inl (by rfl)) (fun g cdg => gives_told (k := 9) (hr.mono (by decide)) (by decide) EF) (by rfl) TB rfl List.mem_cons_self lam_one hr (by decide) (lamS_by (by show lamSB (defScope sLaw) _ = true; decide +kernel)) (fun A outer s H E f c' hr2 => pe_mx cn.cls mAt hr2 (by decide) (takes_of rfl rfl rfl rfl) (fun _ _ _ _ z => z) (pv 8) (pa_cons (pv 18) pa_nil))) pe_non (nomark _)) (pe_k cOn hg hr (by decide) (by rfl) (pa_cons (pv 5) (pa_cons (pv 18) pa_nil))) (nomark _)) (pss_one (ps_ret pe_bl)) pss_nil))))))))))))))))))))
      (pss_cons (ps_set (i := 11) scLaw.nd rfl (.inl rfl) (pe_mkr mk hr (by decide) (by rfl) (pa_cons (pe_tup (pa_cons pe_int (pa_cons pe_int pa_nil))) (pa_cons (pe_tup (pa_cons pe_int (pa_cons pe_int pa_nil))) (pa_cons pe_int (pa_cons (pe_lst (pa_cons pe_int (pa_cons pe_int pa_nil))) pa_nil))))))
      (pss_one (ps_ret (pe_cmpR (op_eqD hu64) (pe_lst (pa_cons (pe_m cn.cls M.at_ hr (by decide) (pv 11) (pa_cons pe_int pa_nil)) (pa_cons (pe_m cn.cls M.at_ hr (by decide) (pv 11) (pa_cons pe_int pa_nil)) (pa_cons (pe_m cn.cls M.at_ hr (by decide) (pv 11) (pa_cons pe_int pa_nil)) (pa_cons (pe_m0' cn.cls M.row hr (by decide) (pv 11)) pa_nil))))) (pe_lst (pa_cons pe_int (pa_cons pe_int (pa_cons pe_int (pa_cons (pe_lst (pa_cons pe_int (pa_cons pe_int pa_nil))) pa_nil))))) (nomark _))))))), ?_⟩
    refine ⟨_, rfl, a, ns, rfl, hS, hl, fun d c H0 nd nc S0 s0' => ?_⟩
    have tabs := Tabs.same tabs s0'
    refine ⟨4, rfl, by decide, by decide, ?_⟩
    refine for_range (lo := 0) (fun i σ H1 => ∃ (v2 v3 v4 v5 v6 v7 v8 v9 v10 v11 v12 v13 v14 v15 v16 v17 v18 : Option V), σ = [some (.ref a), some (.ref d), v2, v3, v4, v5, v6, v7, v8, v9, v10, v11, v12, v13, v14, v15, v16, v17, v18] ∧ Src H1 d c ∧ Tabs (lamT P1) H1)
      ⟨_, _, _, _, _, _, _, _, _, _, _, _, _, _, _, _, _, rfl, S0, tabs⟩ ?_ ?_
    · rintro i σ H1 hi ⟨v2, v3, v4, v5, v6, v7, v8, v9, v10, v11, v12, v13, v14, v15, v16, v17, v18, rfl, S1, tabs⟩
      refine ⟨_, rfl, d, c, rfl, S1, fun tt p n ss H2 mt mp n0 n1 l0 l1 okss S2 k2 => ?_⟩
      refine ⟨tt, _, rfl, SqT.of (mask_same _ _ mt), rfl, _, _, rfl, _, _, rfl, rfl, ?_⟩
      refine st_step (σ' := [some (.ref a), some (.ref d), some (.int (0 + (i : Nat))), some (.int n), some (.ref p), v5, v6, v7, v8, v9, v10, v11, v12, v13, v14, v15, v16, v17, v18]) rfl ?_
      have tabs := tabs_keep tabs S1 k2
      refine ⟨_, rfl, _, rfl, d, c, p, ss, rfl, S2, mask_same _ _ mp, (msk_ne mp).2, l0, l1, fun st f s H5 hst hs5 hf5 S5 k5 => ?_⟩
      have tabs := tabs_keep tabs S2 k5
      have mp := mask_keep k5 _ _ mp
      refine ⟨_, rfl, _, rfl, d, c, p, ss, rfl, S5, mask_same _ _ mp, (msk_ne mp).2, l0, l1, fun et g r H6 het hr6 hg6 S6 k6 => ?_⟩
      have tabs := tabs_keep tabs S5 k6
      obtain ⟨s0, s60, sn⟩ := okss s hs5
      obtain ⟨r0, r60, rn⟩ := okss r hr6
      have mst := mask_keep k6 _ _ (mask_at (S5.nd hst) hst)
      have met := mask_at (S6.nd het) het
      clear mt mp okss hs5 hr6 k2 k5 k6 S1 S2 S5 l0 l1 hst het
      refine ⟨_, _, rfl, ?_⟩
      refine st_step (σ' := [some (.ref a), some (.ref d), some (.int (0 + (i : Nat))), some (.int n), some (.ref p), some (.ref st), some (.ref et), v7, v8, v9, v10, v11, v12, v13, v14, v15, v16, v17, v18]) rfl ?_
      have per : PerOk (⟨f, s, g, r, n⟩ : LP) := ⟨s0, s60, r0, r60, n0, n1, sn, rn⟩
      -- lead
      refine ⟨_, rfl, _, rfl, _, rfl, _, rfl, d, c, st, et, (⟨f, s, g, r, n⟩ : LP), rfl, S6, mask_same _ _ mst, mask_same _ _ met, per, fun D F H7 dm ok sml S7 k7 => ?_⟩
      refine name_step (σ' := [some (.ref a), some (.ref d), some (.int (0 + (i : Nat))), some (.int n), some (.ref p), some (.ref st), some (.ref et), some (.ref D), v8, v9, v10, v11, v12, v13, v14, v15, v16, v17, v18]) rfl ?_
      have tabs := tabs_keep tabs S6 k7
      obtain ⟨sd, ed, rd, x, hD, hsd, hed, hrd, ldx⟩ := id dm.ex
      have w7 : W5 C d c st et D x P1 ⟨f, s, g, r, n⟩ F H7 := ⟨S7, tabs, mask_keep k7 _ _ mst, mask_keep k7 _ _ met, ⟨sd, ed, rd, hD, hsd, hed, hrd⟩, ldx⟩
      have nl : NL (⟨f, s, g, r, n⟩ : LP) (rowOf ⟨f, s, g, r, n⟩ F) := nl_of per sml ok hf5 hg6
      have big : Big (⟨f, s, g, r, n⟩ : LP) F := Sml.big sml hf5 hg6
      clear k7 S6 mst met tabs dm hsd hed ldx S7
      have lrow : (rowOf (⟨f, s, g, r, n⟩ : LP) F).length ≤ 60 := nl.len
      -- made, handed
      refine ⟨_, rfl, D, _, rfl, dgetK (mask_same _ _ hD) w_made, _, rfl, D, _, rfl, dgetK (mask_same _ _ hD) w_row, rd, _, rfl, .inl (SqL.of (mask_same _ _ hrd)), fun hl nhl => ?_⟩
      refine ⟨(by show 2 ≤ sizeLine; decide), fun tp ntp => ⟨tp, _, rfl, SqT.of upd_same, rfl, _, _, rfl, _, _, rfl, rfl, ?_⟩⟩
      have q8 := same_new (o := .lst ((rowOf (⟨f, s, g, r, n⟩ : LP) F).map V.int)) nhl
      have q9 := same_new (o := .tup [.ref x, .ref hl]) ntp
      have hhl := q9 _ _ (upd_same (H := H7) (a := hl) (o := .lst ((rowOf (⟨f, s, g, r, n⟩ : LP) F).map V.int)))
      have q79 := q8.trans q9
      revert q79 hhl
      generalize upd (upd H7 hl (.lst ((rowOf (⟨f, s, g, r, n⟩ : LP) F).map V.int))) tp (.tup [.ref x, .ref hl]) = H9
      intro hhl q79
      clear q8 q9 ntp hD hrd
      refine st_step (σ' := [some (.ref a), some (.ref d), some (.int (0 + (i : Nat))), some (.int n), some (.ref p), some (.ref st), some (.ref et), some (.ref D), some (.ref x), some (.ref hl), v10, v11, v12, v13, v14, v15, v16, v17, v18]) rfl ?_
      have w9 := w7.same q79
      -- is_like, start, end
      refine ⟨_, rfl, _, rfl, D, x, _, F, rfl, w9.dl, w9.at_, ok, big, fun H10 q10 => ⟨true, rfl, iteF ?_⟩⟩
      have w10 := w9.same q10
      obtain ⟨dx, fx, ix, a1, a2, a3, a4, a5⟩ := ld_ins w10.at_
      refine ⟨_, rfl, x, dx, fx, rfl, ix, a1, x, _, _, rfl, w10.at_, fun xa hxa => ?_⟩
      refine ⟨_, rfl, x, dx, fx, rfl, ix, a2, x, _, _, rfl, w10.at_, fun xb hxb => ?_⟩
      refine ⟨(by show 2 ≤ sizeLine; decide), fun l1 nl1 => ⟨_, rfl, _, rfl, (by show 2 ≤ sizeLine; decide), fun l2 nl2 => ?_⟩⟩
      have e1 := same_new (o := .lst [.ref xa, .ref xb]) nl1
      have e2 := same_new (o := .lst [.ref st, .ref et]) nl2
      have h1 := e2 _ _ (upd_same (H := H10) (a := l1) (o := .lst [.ref xa, .ref xb]))
      have h2 := upd_same (H := upd H10 l1 (.lst [.ref xa, .ref xb])) (a := l2) (o := .lst [.ref st, .ref et])
      have e12 := e1.trans e2
      revert h1 h2 e12
      generalize upd (upd H10 l1 (.lst [.ref xa, .ref xb])) l2 (.lst [.ref st, .ref et]) = H11
      intro h1 h2 e12
      have w11 := w10.same e12
      refine ⟨ckD f s g r, ckD f s g r, .lst (SqL.of h1) (.cons (.tup (SqT.of (e12 _ _ hxa)) (.cons (.int _) (.cons (.int _) .nil))) (.cons (.tup (SqT.of (e12 _ _ hxb)) (.cons (.int _) (.cons (.int _) .nil))) .nil)), .lst (SqL.of h2) (.cons (.tup (SqT.of w11.hst) (.cons (.int _) (.cons (.int _) .nil))) (.cons (.tup (SqT.of w11.het) (.cons (.int _) (.cons (.int _) .nil))) .nil)), ckD_shaped, ckD_shaped, _, rfl, ?_⟩
      rw [ckD_eqv]
      refine iteF ?_
      have q11 := (q79.trans q10).trans e12
      have hhl := e12 _ _ (q10 _ _ hhl)
      clear e1 e2 h1 h2 nl1 nl2 hxa hxb ix w10 w9 q79 q10 e12
      -- made.row().clear()
      obtain ⟨dx, fx, ix, a1, a2, a3, a4, a5⟩ := ld_ins w11.at_
      refine ⟨_, rfl, x, dx, fx, rfl, ix, a4, x, _, _, rfl, w11.at_, fun pr npr => ?_⟩
      refine ⟨.inl ⟨rfl, _, SqL.of upd_same⟩, pr, _, rfl, rfl, upd_same, ?_⟩
      rw [upd_upd]
      have q12' := same_new (o := .lst []) npr
      have w12 := w11.same q12'
      have q12 := q11.trans q12'
      have hhl := q12' _ _ hhl
      clear w11 q11 q12' ix
      revert q12 hhl w12
      generalize upd H11 pr (.lst []) = H12
      intro w12 q12 hhl
      refine ⟨_, rfl, _, rfl, D, x, _, F, rfl, w12.dl, w12.at_, ok, big, fun H13 q13 => ⟨true, rfl, iteF ?_⟩⟩
      have w13 := w12.same q13
      have hhl := q13 _ _ hhl
      have q13 := q12.trans q13
      clear w12 q12 npr
      -- other
      refine ⟨_, rfl, _, rfl, d, c, st, f, s, rfl, w13.S, w13.hst, s0, s60, fun ua ga H14 hua alga szga S14 k14 => ?_⟩
      have w14 := w13.keep k14 S14
      refine ⟨_, rfl, _, rfl, d, c, et, g, r, rfl, S14, w14.het, r0, r60, fun ub gb H15 hub algb szgb S15 k15 => ⟨_, rfl, _, rfl, fun x2 dx2 nx ndx ne => ?_⟩⟩
      have hldc := w7.S.away nhl
      have hhl15 := k15 _ _ (k14 _ _ hhl hldc.1 hldc.2) hldc.1 hldc.2
      have hua15 := k15 _ _ hua (S14.nd hua).1 (S14.nd hua).2
      have like2 : Like (⟨ga, s, gb, r, n⟩ : LP) (⟨f, s, g, r, n⟩ : LP) := ⟨rfl, rfl, rfl, alike_sym alga, alike_sym algb⟩
      have ok2 : LOk (⟨ga, s, gb, r, n⟩ : LP) F := ⟨like2.sem ok.sem, s60, r60, ok.n1⟩
      have row2 : rowOf (⟨ga, s, gb, r, n⟩ : LP) F = rowOf (⟨f, s, g, r, n⟩ : LP) F := by
        show (nums ga s n).map F = (nums f s n).map F
        rw [nums_alike s0 alga]
      have K15 := ((Keep.of q13).trans k14).trans k15
      clear k14 k15 hua S14 w14 w13 q13 hhl szga szgb
      refine mk_ok2 (L := (⟨ga, s, gb, r, n⟩ : LP)) (F := F) nx ndx ne rfl (by rw [row2]; exact hhl15) hua15 hub ok2 fun H16 q16 ld16 => ?_
      refine name_step (σ' := [some (.ref a), some (.ref d), some (.int (0 + (i : Nat))), some (.int n), some (.ref p), some (.ref st), some (.ref et), some (.ref D), some (.ref x), some (.ref hl), some (.ref x2), v11, v12, v13, v14, v15, v16, v17, v18]) rfl ?_
      have hhl16 := q16 _ _ hhl15
      refine ⟨_, rfl, .inl ⟨rfl, _, SqL.of hhl16⟩, hl, _, rfl, rfl, hhl16, ?_⟩
      have ld17 := ld_put (o := .lst []) ld16 hhl16
      have K17 := (K15.trans (Keep.of q16)).put (o := .lst []) nhl
      have S17 := (S15.same q16).put (o := .lst []) hldc
      revert ld17 K17 S17
      generalize upd H16 hl (.lst []) = H17
      intro ld17 K17 S17
      have w17 := w7.keep K17 S17
      clear ld16 q16 K15 hhl16 hhl15 hua15 hub S15 nx ndx ne hldc
      -- repr(other.row())
      have fr := (fit_row nl).one
      obtain ⟨dz, fz, iz, b1, b2, b3, b4, b5⟩ := ld_ins ld17
      refine ⟨_, rfl, x2, dz, fz, rfl, iz, b4, x2, _, _, rfl, ld17, fun pr npr => ?_⟩
      rw [row2]
      have q18 := same_new (o := .lst ((rowOf (⟨f, s, g, r, n⟩ : LP) F).map V.int)) npr
      have hpr := upd_same (H := H17) (a := pr) (o := .lst ((rowOf (⟨f, s, g, r, n⟩ : LP) F).map V.int))
      revert q18 hpr
      generalize upd H17 pr (.lst ((rowOf (⟨f, s, g, r, n⟩ : LP) F).map V.int)) = H18
      intro q18 hpr
      have w18 := w17.same q18
      have ld18 := ld17.same q18
      obtain ⟨sd8, ed8, rd8, hD8, _, _, hrd8⟩ := w18.dm
      have hD8 := mask_same _ _ hD8
      have hrd8 := mask_same _ _ hrd8
      refine ⟨_, _, rfl, .lst (SqL.of hpr) (dxAll_ints _), fr.1, fr.2.1, fr.2.2, _, rfl, D, _, rfl, dgetK hD8 w_row, _, _, rfl, .lst (SqL.of hrd8) (dxAll_ints _), fr.1, fr.2.1, fr.2.2, rfl, _, rfl, ?_⟩
      rw [show (!decide (V.str (PyData.list ((rowOf (⟨f, s, g, r, n⟩ : LP) F).map PyData.int)).shown = V.str (PyData.list ((rowOf (⟨f, s, g, r, n⟩ : LP) F).map PyData.int)).shown)) = false by simp]
      refine iteF ?_
      clear q18 hpr npr iz b1 b2 b3 b4 b5 w17 ld17 K17 S17
      -- told
      obtain ⟨dz, fz, iz, _, _, _, _, _⟩ := ld_ins ld18
      obtain ⟨dx, fx, ix, _, _, _, _, _⟩ := ld_ins w18.at_
      refine ⟨_, rfl, _, rfl, x, x2, dx, dz, fx, fz, rfl, rfl, ix, iz, x, x2, (⟨f, s, g, r, n⟩ : LP), (⟨ga, s, gb, r, n⟩ : LP), F, F, rfl, w18.at_, ld18, s0, r0, ?_⟩
      rw [eqL_true (L := (⟨f, s, g, r, n⟩ : LP)) (M := (⟨ga, s, gb, r, n⟩ : LP)) s0 rfl alga rfl algb rfl (fun v _ => rfl)]
      refine ⟨_, rfl, _, rfl, _, rfl, x2, x, dz, dx, fz, fx, rfl, rfl, iz, ix, x2, x, (⟨ga, s, gb, r, n⟩ : LP), (⟨f, s, g, r, n⟩ : LP), F, F, rfl, ld18, w18.at_, s0, r0, ?_⟩
      rw [eqL_true (L := (⟨ga, s, gb, r, n⟩ : LP)) (M := (⟨f, s, g, r, n⟩ : LP)) s0 rfl (alike_sym alga) rfl (alike_sym algb) rfl (fun v _ => rfl)]
      refine ⟨_, rfl, _, rfl, _, rfl, x, x2, dx, dz, fx, fz, rfl, rfl, ix, iz, x, x2, (⟨f, s, g, r, n⟩ : LP), (⟨ga, s, gb, r, n⟩ : LP), F, F, rfl, w18.at_, ld18, s0, r0, ?_⟩
      rw [eqL_true (L := (⟨f, s, g, r, n⟩ : LP)) (M := (⟨ga, s, gb, r, n⟩ : LP)) s0 rfl alga rfl algb rfl (fun v _ => rfl)]
      refine ⟨_, rfl, _, rfl, _, rfl, D, _, rfl, dgetK hD8 w_row, x, dx, fx, rfl, ix, .inl ⟨rfl, _, SqL.of hrd8⟩, ⟨x, .ref rd8, "list", rfl, .base (.lst hrd8), kl, _, rfl, _, rfl, x, dx, fx, rfl, ix, (show tyV K "int" (.int 7) H18 from rfl), ⟨x, dx, fx, 7, rfl, ix, ki, _, rfl, (by show 5 ≤ sizeLine; decide), fun lt nlt => ?_⟩⟩⟩
      refine name_step (σ' := [some (.ref a), some (.ref d), some (.int (0 + (i : Nat))), some (.int n), some (.ref p), some (.ref st), some (.ref et), some (.ref D), some (.ref x), some (.ref hl), some (.ref x2), some (.ref lt), v12, v13, v14, v15, v16, v17, v18]) rfl ?_
      have q19 := same_new (H := H18) (o := .lst [.bl true, .bl true, .bl (!true), .bl false, .bl true]) nlt
      have hlt := upd_same (H := H18) (a := lt) (o := .lst [.bl true, .bl true, .bl (!true), .bl false, .bl true])
      revert q19 hlt
      generalize upd H18 lt (.lst [.bl true, .bl true, .bl (!true), .bl false, .bl true]) = H19
      intro q19 hlt
      refine ⟨_, rfl, _, b5D, rfl, .lst (SqL.of hlt) (.cons (.bl _) (.cons (.bl _) (.cons (.bl _) (.cons (.bl _) (.cons (.bl _) .nil))))), b5_fit.one.1, b5_fit.one.2.1, b5_fit.one.2.2, (by show 5 ≤ sizeLine; decide), fun l5 nl5 => ?_⟩
      refine ⟨_, b5D, rfl, .lst (SqL.of upd_same) (.cons (.bl _) (.cons (.bl _) (.cons (.bl _) (.cons (.bl _) (.cons (.bl _) .nil))))), b5_fit.one.1, b5_fit.one.2.1, b5_fit.one.2.2, rfl, _, rfl, ?_⟩
      rw [show (!decide (V.str b5D.shown = V.str b5D.shown)) = false by simp]
      refine iteF ?_
      have q20 := q19.trans (same_new (o := .lst [.bl true, .bl true, .bl false, .bl false, .bl true]) nl5)
      have w20 := w18.same q20
      revert w20
      generalize upd H19 l5 (.lst [.bl true, .bl true, .bl false, .bl false, .bl true]) = H20
      intro w20
      clear w18 q19 hlt nlt iz ix hD8 hrd8 ld18 q20 nl5 w7 nhl
      -- late
      refine (fun (fin : ∀ (v12 : Option V) (H21 : Hp), W5 C d c st et D x P1 ⟨f, s, g, r, n⟩ F H21 → (?TT : Option V → Hp → Prop) v12 H21) => ?main) ?after
      case main =>
        refine ⟨_, rfl, st, _, 1, _, rfl, rfl, SqT.of w20.hst, rfl, _, _, rfl, rfl, _, rfl, ?_⟩
        by_cases s1 : s > 1
        · rw [decide_eq_true s1]
          refine iteT ?_
          refine ⟨_, rfl, st, _, 0, _, rfl, rfl, SqT.of w20.hst, rfl, _, _, rfl, rfl, _, rfl, st, _, 1, _, rfl, rfl, SqT.of w20.hst, rfl, (by show 2 ≤ sizeLine; decide), fun u nu => ?_⟩
          have q21 := same_new (o := .tup [.int (f + 1), .int s]) nu
          have hu21 := upd_same (H := H20) (a := u) (o := .tup [.int (f + 1), .int s])
          revert q21 hu21
          generalize upd H20 u (.tup [.int (f + 1), .int s]) = H21
          intro q21 hu21
          have w21 := w20.same q21
          obtain ⟨_, _, rd1, hD1, _, _, hrd1⟩ := w21.dm
          refine ⟨_, rfl, _, rfl, _, rfl, D, _, rfl, dgetK (mask_same _ _ hD1) w_row, rd1, _, rfl, .inl (SqL.of (mask_same _ _ hrd1)), fun l6 nl6 => fun x3 dx3 nx ndx ne => ?_⟩
          have q22 := same_new (o := .lst ((rowOf (⟨f, s, g, r, n⟩ : LP) F).map V.int)) nl6
          have rok := ok.sem.rok (f + 1)
          have row3 : rowOf (⟨f + 1, s, g, r, n⟩ : LP) (valL s n ((nums f s n).map F)) = rowOf (⟨f, s, g, r, n⟩ : LP) F := rok.sem.2
          refine mk_ok2 (L := (⟨f + 1, s, g, r, n⟩ : LP)) (F := valL s n ((nums f s n).map F)) nx ndx ne rfl (by rw [row3]; exact upd_same) (q22 _ _ hu21) (q22 _ _ w21.het) ⟨rok.sem.1, s60, r60, ok.n1⟩ fun H23 q23 ld23 => ?_
          have w23 := w21.same (q22.trans q23)
          clear q21 hu21 w21 hD1 hrd1 q22 nl6 nx ndx ne q23
          refine name_step (σ' := [some (.ref a), some (.ref d), some (.int (0 + (i : Nat))), some (.int n), some (.ref p), some (.ref st), some (.ref et), some (.ref D), some (.ref x), some (.ref hl), some (.ref x2), some (.ref lt), some (.ref x3), v13, v14, v15, v16, v17, v18]) rfl ?_
          obtain ⟨dz, fz, iz, _, _, _, _, _⟩ := ld_ins ld23
          obtain ⟨dx, fx, ix, _, _, _, _, _⟩ := ld_ins w23.at_
          have off1 : ¬ (f - (f + 1)) % s = 0 := by
            rw [show f - (f + 1) = -1 by omega]
            intro z
            obtain ⟨q, e⟩ := Int.dvd_of_emod_eq_zero z
            have : s ∣ 1 := ⟨-q, by rw [Int.mul_neg, ← e]; rfl⟩
            have := Int.le_of_dvd (by decide) this
            omega
          have off2 : ¬ (f + 1 - f) % s = 0 := by
            rw [show f + 1 - f = 1 by omega, Int.emod_eq_of_lt (by decide) s1]
            decide
          refine ⟨_, rfl, _, rfl, x3, x, dz, dx, fz, fx, rfl, rfl, iz, ix, x3, x, (⟨f + 1, s, g, r, n⟩ : LP), (⟨f, s, g, r, n⟩ : LP), _, F, rfl, ld23, w23.at_, s0, r0, ?_⟩
          rw [eqL_off (L := (⟨f + 1, s, g, r, n⟩ : LP)) (M := (⟨f, s, g, r, n⟩ : LP)) off1]
          refine ⟨_, rfl, _, rfl, _, rfl, x, x3, dx, dz, fx, fz, rfl, rfl, ix, iz, x, x3, (⟨f, s, g, r, n⟩ : LP), (⟨f + 1, s, g, r, n⟩ : LP), F, _, rfl, w23.at_, ld23, s0, r0, ?_⟩
          rw [eqL_off (L := (⟨f, s, g, r, n⟩ : LP)) (M := (⟨f + 1, s, g, r, n⟩ : LP)) off2]
          refine ⟨_, rfl, _, rfl, _, rfl, x, x3, dx, dz, fx, fz, rfl, rfl, ix, iz, x, x3, (⟨f, s, g, r, n⟩ : LP), (⟨f + 1, s, g, r, n⟩ : LP), F, _, rfl, w23.at_, ld23, s0, r0, ?_⟩
          rw [eqL_off (L := (⟨f, s, g, r, n⟩ : LP)) (M := (⟨f + 1, s, g, r, n⟩ : LP)) off2]
          refine ⟨_, rfl, (by show 3 ≤ sizeLine; decide), fun l7 nl7 => ⟨(by show 3 ≤ sizeLine; decide), fun l8 nl8 => ?_⟩⟩
          have e7 := same_new (o := .lst [.bl false, .bl false, .bl (!false)]) nl7
          have e8 := same_new (o := .lst [.bl false, .bl false, .bl true]) nl8
          refine ⟨b3D, b3D, .lst (SqL.of (e8 _ _ upd_same)) (.cons (.bl _) (.cons (.bl _) (.cons (.bl _) .nil))), .lst (SqL.of upd_same) (.cons (.bl _) (.cons (.bl _) (.cons (.bl _) .nil))), b3_shaped, b3_shaped, _, rfl, ?_⟩
          rw [b3_eqv]
          refine iteF ?_
          have w24 := w23.same (e7.trans e8)
          revert w24
          generalize upd (upd H23 l7 (.lst [.bl false, .bl false, .bl (!false)])) l8 (.lst [.bl false, .bl false, .bl true]) = H24
          intro w24
          generalize (some (V.ref x3) : Option V) = y12
          exact fin y12 H24 w24
        · rw [decide_eq_false s1]
          exact iteF (fin v12 H20 w20)
      case after =>
        clear v12 w20
        intro v12 H21 w21
        -- near
        have lt11 : (some (V.ref lt) : Option V) = some (V.ref lt) := rfl
        refine ⟨_, rfl, _, rfl, d, c, D, (⟨f, s, g, r, n⟩ : LP), F, rfl, w21.S, w21.dmx, nl, fun p5 qs H22 S22 k22 hp5 cs lq => ⟨p5, rfl, ⟨_, SqL.of hp5⟩, ?_⟩⟩
        have w22 := w21.keep k22 S22
        clear k22 w21
        refine for_it walk_list (fun i' σ H23 => ∃ (v11 v13 v14 v15 v16 : Option V), σ = [some (.ref a), some (.ref d), some (.int (0 + (i : Nat))), some (.int n), some (.ref p), some (.ref st), some (.ref et), some (.ref D), some (.ref x), some (.ref hl), some (.ref x2), v11, v12, v13, v14, v15, v16, v17, v18] ∧ ExtN H22 H23 ∧ Tabs (lamT P1) H23)
          ⟨_, _, _, _, _, rfl, ExtN.of_same (Same.refl _), w22.tabs⟩ (fun i' σ H23 _ z => SqL.of (z.choose_spec.choose_spec.choose_spec.choose_spec.choose_spec.2.1 _ _ hp5 (by nofun))) ?_ ?_
        · rintro i' y σ H23x H23 hi' ⟨v11, v13, v14, v15, v16, rfl, e23, t23⟩ ⟨rfl, hy⟩
          obtain ⟨q, hq, rfl⟩ : ∃ q, q ∈ qs ∧ V.ref q = y := by
            rw [List.getElem?_map] at hy
            obtain ⟨q, hq, e⟩ := Option.map_eq_some_iff.mp hy
            exact ⟨q, List.mem_of_getElem? hq, e⟩
          have w23 := w22.ext e23 t23
          obtain ⟨b, e, p6, rr, mq, ⟨db, mb, fb⟩, ⟨de, me, fe⟩, ⟨dp, mp6, fp⟩, ⟨dr, mr, fr2⟩⟩ := (cs q hq).ext (mask_ext e23)
          have hq := mask_same _ _ mq
          have hb := mb.same mask_same
          have he := me.same mask_same
          have hp := mp6.same mask_same
          have hr2 := mr.same mask_same
          have four := four_one fb fe fp fr2
          have few : ∀ ds, seqD dr = some ds → ds.length ≤ 4000 := fun ds z => Nat.le_trans (fr2.few ds z) (by decide)
          clear mq mb me mp6 mr
          -- kept, due
          have dxq : ∀ {H' : Hp}, H' q = some (.tup [b, e, p6, rr]) → Pv H' b db → Pv H' e de → Pv H' p6 dp → Pv H' rr dr → Dx K H' (.ref q) (.tuple [db, de, dp, dr]) := fun h1 h2 h3 h4 h5 => .tup (SqT.of h1) (.cons (Pv.dx _ _ h2) (.cons (Pv.dx _ _ h3) (.cons (Pv.dx _ _ h4) (.cons (Pv.dx _ _ h5) .nil))))
          refine ⟨_, rfl, _, _, rfl, dxq hq hb he hp hr2, four.1, four.2.1, four.2.2, ?_⟩
          refine ⟨_, rfl, q, _, 0, _, rfl, rfl, SqT.of hq, rfl, _, rfl, q, _, 1, _, rfl, rfl, SqT.of hq, rfl, _, rfl, q, _, 2, _, rfl, rfl, SqT.of hq, rfl, _, rfl, q, _, 3, _, rfl, rfl, SqT.of hq, rfl, b, e, p6, rr, db, de, dp, dr, rfl, hb, he, hp, hr2, few, fun dv H24 q24 rt => ?_⟩
          refine ⟨_, _, rfl, ?_⟩
          refine st_step (σ' := [some (.ref a), some (.ref d), some (.int (0 + (i : Nat))), some (.int n), some (.ref p), some (.ref st), some (.ref et), some (.ref D), some (.ref x), some (.ref hl), some (.ref x2), v11, v12, some (.ref q), some (.str (PyData.tuple [db, de, dp, dr]).shown), some dv, v16, v17, v18]) rfl ?_
          have w24 := w23.same q24
          have hq := q24 _ _ hq
          have hb := hb.same q24
          have he := he.same q24
          have hp := hp.same q24
          have hr2 := hr2.same q24
          have e24 := e23.trans (ExtN.of_same q24)
          clear q24 w23 e23 t23
          have sm : ∀ ks, badD db de dp dr = some ks → ks.length ≤ 2 ∧ ∀ k, k ∈ ks → k.natAbs < 10 ^ 40 := fun ks z => badD_small few z
          have one := refD_one sm
          -- told
          refine (fun (fin : ∀ (tv : V) (H25 : Hp), ExtN H24 H25 → Tabs (lamT P1) H25 → RetT H25 (badD db de dp dr) tv → (?TT7 : V → Hp → Prop) tv H25) => ?main7) ?after7
          case main7 =>
            refine ⟨w24.tabs, fun H25 e25 t25 => ?_⟩
            have hq := e25 _ _ hq (by nofun)
            have hb := hb.ext e25
            have he := he.ext e25
            have hp := hp.ext e25
            have hr2 := hr2.ext e25
            refine ⟨_, rfl, q, _, 0, _, rfl, rfl, SqT.of hq, rfl, _, rfl, q, _, 1, _, rfl, rfl, SqT.of hq, rfl, _, rfl, q, _, 2, _, rfl, rfl, SqT.of hq, rfl, _, rfl, q, _, 3, _, rfl, rfl, SqT.of hq, rfl, fun x4 dx4 nx ndx ne => ?_⟩
            have nw : Same H25 (upd (upd H25 dx4 (.own x4)) x4 (.ins C dx4 [])) := (same_new ndx).trans (same_new (by rw [upd_ne ne.symm]; exact nx))
            refine ⟨x4, dx4, b, e, p6, rr, db, de, dp, dr, rfl, upd_same, hb.same nw, he.same nw, hp.same nw, hr2.same nw, few, fun bad f' s' g' r' n' ks e1 e2 e3 e4 rok H26 sb ld => ?_, fun ks bad dd qq H26 s26 hd hqq => .inl ⟨rfl, dd, qq, rfl, hd, fun u nu => ?_⟩⟩
            case refine_2 =>
              have q27 := same_new (o := .tup [.str "refused", .ref qq]) nu
              have hu := upd_same (H := H26) (a := u) (o := .tup [.str "refused", .ref qq])
              have hqq := q27 _ _ hqq
              have sall := (nw.trans s26).trans q27
              revert hu hqq sall
              generalize upd H26 u (.tup [.str "refused", .ref qq]) = H27
              intro hu hqq sall
              have rt : RetT H27 (badD db de dp dr) (.ref u) := by
                rw [bad]
                exact ⟨u, qq, rfl, hu, hqq⟩
              revert rt
              generalize V.ref u = tv
              intro rt
              exact fin tv H27 (e25.trans (ExtN.of_same sall)) (Tabs.same t25 sall) rt
            case refine_1 =>
              have sall : Same H25 H26 := fun y' u z => sb y' u (nw _ _ z) (ne_of_none z nx)
              refine ⟨rfl, ?_⟩
              exact fin .non H26 (e25.trans (ExtN.of_same sall)) (Tabs.same t25 sall) (by rw [bad]; exact rfl)
          case after7 =>
            intro tv H25 e25 t25 rtt
            have w25 := w24.ext e25 t25
            have hq := e25 _ _ hq (by nofun)
            have hb := hb.ext e25
            have he := he.ext e25
            have hp := hp.ext e25
            have hr2 := hr2.ext e25
            have e25' := e24.trans e25
            refine name_step (σ' := [some (.ref a), some (.ref d), some (.int (0 + (i : Nat))), some (.int n), some (.ref p), some (.ref st), some (.ref et), some (.ref D), some (.ref x), some (.ref hl), some (.ref x2), some tv, v12, some (.ref q), some (.str (PyData.tuple [db, de, dp, dr]).shown), some dv, v16, v17, v18]) rfl ?_
            refine ⟨_, rfl, _, _, rfl, rtt.dx, one.1, one.2.1, one.2.2, _, rfl, rfl, _, rfl, ?_⟩
            cases bad : badD db de dp dr with
            | none =>
              rw [bad] at rt one
              obtain rfl : dv = .non := rt
              refine iteT ?_
              refine ⟨_, _, rfl, .non, one.1, one.2.1, one.2.2, rfl, _, rfl, ?_⟩
              rw [show (!decide (V.str (refD none).shown = V.str PyData.none.shown)) = false by simp [refD]]
              refine iteF ?_
              refine ⟨_, rfl, _, _, rfl, dxq hq hb he hp hr2, four.1, four.2.1, four.2.2, _, rfl, rfl, _, rfl, ?_⟩
              rw [show (!decide (V.str (PyData.tuple [db, de, dp, dr]).shown = V.str (PyData.tuple [db, de, dp, dr]).shown)) = false by simp]
              refine iteF ?_
              refine ⟨_, rfl, rfl, _, rfl, iteT ?_⟩
              -- one
              refine ⟨_, rfl, q, _, 0, _, rfl, rfl, SqT.of hq, rfl, _, rfl, q, _, 1, _, rfl, rfl, SqT.of hq, rfl, _, rfl, q, _, 2, _, rfl, rfl, SqT.of hq, rfl, _, rfl, q, _, 3, _, rfl, rfl, SqT.of hq, rfl, fun x5 dx5 nx ndx ne => ?_⟩
              have nw : Same H25 (upd (upd H25 dx5 (.own x5)) x5 (.ins C dx5 [])) := (same_new ndx).trans (same_new (by rw [upd_ne ne.symm]; exact nx))
              refine ⟨x5, dx5, b, e, p6, rr, db, de, dp, dr, rfl, upd_same, hb.same nw, he.same nw, hp.same nw, hr2.same nw, few, bad, fun f' s' g' r' n' ks e1 e2 e3 e4 rok H26 sb ld5 => ⟨rfl, ?_⟩⟩
              have s26 : Same H25 H26 := fun y' u z => sb y' u (nw _ _ z) (ne_of_none z nx)
              refine name_step (σ' := [some (.ref a), some (.ref d), some (.int (0 + (i : Nat))), some (.int n), some (.ref p), some (.ref st), some (.ref et), some (.ref D), some (.ref x), some (.ref hl), some (.ref x2), some tv, v12, some (.ref q), some (.str (PyData.tuple [db, de, dp, dr]).shown), some .non, some (.ref x5), v17, v18]) rfl ?_
              subst e1 e2 e3
              have w26 := w25.same s26
              obtain ⟨ba, ea, ra, rfl, rfl, rfl, rfl, hba, hea, hra⟩ := parts_of (hb.same s26) (he.same s26) (hp.same s26) (hr2.same s26) e4
              have hq := s26 _ _ hq
              have row5 : ks = rowOf (⟨f', s', g', r', n'⟩ : LP) (valL s' n' ks) := rok.sem.2.symm
              obtain ⟨dz, fz, iz, b1, b2, b3, b4, b5⟩ := ld_ins ld5
              obtain ⟨dx, fx, ix, _, _, _, _, _⟩ := ld_ins w26.at_
              refine ⟨_, rfl, _, rfl, x5, x, dz, dx, fz, fx, rfl, rfl, iz, ix, x5, x, (⟨f', s', g', r', n'⟩ : LP), (⟨f, s, g, r, n⟩ : LP), _, F, rfl, ld5, w26.at_, rok.s0, rok.r0, ?_⟩
              refine ⟨_, rfl, _, rfl, _, rfl, D, q, ba, ea, ra, (⟨f', s', g', r', n'⟩ : LP), (⟨f, s, g, r, n⟩ : LP), valL s' n' ks, F, rfl, w26.dl, hq, hba, hea, by rw [← row5]; exact hra, rok.s0, rok.r0, fun H27 q27 => ⟨rfl, _, rfl, ?_⟩⟩
              rw [show (!decide (V.bl (eqL (⟨f', s', g', r', n'⟩ : LP) (⟨f, s, g, r, n⟩ : LP) (valL s' n' ks) F) = V.bl (eqL (⟨f', s', g', r', n'⟩ : LP) (⟨f, s, g, r, n⟩ : LP) (valL s' n' ks) F))) = false by simp]
              refine iteF ?_
              have s27 := s26.trans q27
              have ld5 := ld5.same q27
              have hq := q27 _ _ hq
              have hra := hra.same q27
              have so := seq_one fr2 e4
              obtain ⟨dz, fz, iz, b1, b2, b3, b4, b5⟩ := ld_ins ld5
              refine ⟨_, rfl, x5, dz, fz, rfl, iz, b4, x5, _, _, rfl, ld5, fun pr npr => ?_⟩
              rw [← row5]
              have q28 := same_new (o := .lst (ks.map V.int)) npr
              have hpr := upd_same (H := H27) (a := pr) (o := .lst (ks.map V.int))
              refine ⟨_, _, rfl, .lst (SqL.of hpr) (dxAll_ints ks), so.1, so.2.1, so.2.2, ?_⟩
              revert q28 hpr
              generalize upd H27 pr (.lst (ks.map V.int)) = H28
              intro q28 hpr
              have s28 := s27.trans q28
              have hq := q28 _ _ hq
              have last : ∀ (l : Addr), H28 l = none → ∃ z dz', V.ref l = z ∧ Dx K (upd H28 l (.lst (ks.map V.int))) z dz' ∧ dz' = .list (ks.map PyData.int) := fun l nl => ⟨_, _, rfl, .lst (SqL.of upd_same) (dxAll_ints ks), rfl⟩
              have done : ∀ l, H28 l = none → ExtN H22 (upd H28 l (.lst (ks.map V.int))) ∧ Tabs (lamT P1) (upd H28 l (.lst (ks.map V.int))) := fun l nl => ⟨e25'.trans (ExtN.of_same (s28.trans (same_new nl))), Tabs.same t25 (s28.trans (same_new nl))⟩
              rcases hra.same q28 with hra | hra
              · refine ⟨_, rfl, q, _, 3, _, rfl, rfl, SqT.of hq, rfl, ra, _, rfl, .inl (SqL.of hra), fun l nl => ?_⟩
                refine ⟨_, .list (ks.map PyData.int), rfl, .lst (SqL.of upd_same) (dxAll_ints ks), so.1, so.2.1, so.2.2, rfl, _, rfl, ?_⟩
                rw [show (!decide (V.str (PyData.list (ks.map PyData.int)).shown = V.str (PyData.list (ks.map PyData.int)).shown)) = false by simp]
                exact iteF ⟨_, _, _, _, _, rfl, done l nl⟩
              · refine ⟨_, rfl, q, _, 3, _, rfl, rfl, SqT.of hq, rfl, ra, _, rfl, .inr (SqT.of hra), fun l nl => ?_⟩
                refine ⟨_, .list (ks.map PyData.int), rfl, .lst (SqL.of upd_same) (dxAll_ints ks), so.1, so.2.1, so.2.2, rfl, _, rfl, ?_⟩
                rw [show (!decide (V.str (PyData.list (ks.map PyData.int)).shown = V.str (PyData.list (ks.map PyData.int)).shown)) = false by simp]
                exact iteF ⟨_, _, _, _, _, rfl, done l nl⟩
            | some ks =>
              rw [bad] at rt one
              have rt := rt
              obtain ⟨t, rfl, ht⟩ := rt
              have ht := e25 _ _ ht (by nofun)
              refine iteF ?_
              refine ⟨_, rfl, (by show 2 ≤ sizeLine; decide), fun u2 nu2 => ?_⟩
              have q26 := same_new (o := .tup [.str "refused", .ref t]) nu2
              refine ⟨_, refD (some ks), rfl, .tup (SqT.of upd_same) (.cons (.str _) (.cons (.tup (SqT.of (q26 _ _ ht)) (dxAll_ints ks)) .nil)), one.1, one.2.1, one.2.2, rfl, _, rfl, ?_⟩
              rw [show (!decide (V.str (refD (some ks)).shown = V.str (refD (some ks)).shown)) = false by simp]
              refine iteF ?_
              refine ⟨_, rfl, _, _, rfl, dxq (q26 _ _ hq) (hb.same q26) (he.same q26) (hp.same q26) (hr2.same q26), four.1, four.2.1, four.2.2, _, rfl, rfl, _, rfl, ?_⟩
              rw [show (!decide (V.str (PyData.tuple [db, de, dp, dr]).shown = V.str (PyData.tuple [db, de, dp, dr]).shown)) = false by simp]
              refine iteF ?_
              refine ⟨_, rfl, rfl, _, rfl, iteF ?_⟩
              exact ⟨_, _, _, _, _, rfl, e25'.trans (ExtN.of_same q26), Tabs.same t25 q26⟩
        rintro σ H23 ⟨v11, v13, v14, v15, v16, rfl, e23, t23⟩
        have w23 := w22.ext e23 t23
        clear hp5 cs w22 e23 t23 lq lt11
        -- at any number
        refine ⟨_, rfl, st, _, 0, _, rfl, rfl, SqT.of w23.hst, rfl, _, _, rfl, rfl, _, rfl, st, _, 0, _, rfl, rfl, SqT.of w23.hst, rfl, _, _, rfl, rfl, _, _, rfl, ?_⟩
        refine for_range (lo := f - 3) (fun i' σ H24 => ∃ (v17 : Option V), σ = [some (.ref a), some (.ref d), some (.int (0 + (i : Nat))), some (.int n), some (.ref p), some (.ref st), some (.ref et), some (.ref D), some (.ref x), some (.ref hl), some (.ref x2), v11, v12, v13, v14, v15, v16, v17, v18] ∧ W5 C d c st et D x P1 ⟨f, s, g, r, n⟩ F H24) ⟨_, rfl, w23⟩ ?_ ?_
        · rintro i' σ H24 hi' ⟨v17, rfl, w24⟩
          refine (fun (fin : ∀ (tv : V) (H25 : Hp), ExtN H24 H25 → Tabs (lamT P1) H25 → decide (tv = V.non) = onB f s (.int (f - 3 + (i' : Nat))) → (?TT8 : V → Hp → Prop) tv H25) => ?main8) ?after8
          case main8 =>
            refine ⟨w24.tabs, fun H25 e25 t25 => ?_⟩
            have w25 := w24.ext e25 t25
            obtain ⟨dx, fx, ix, a1, a2, a3, a4, a5⟩ := ld_ins w25.at_
            refine ⟨_, rfl, x, dx, fx, rfl, ix, a5, _, rfl, x, _, (⟨f, s, g, r, n⟩ : LP), F, rfl, w25.at_, ok, True.intro, fun z ez on => ?_, fun off => .inr ⟨rfl, fun u nu => ?_⟩⟩
            case refine_2 =>
              have q26 := same_new (o := .tup [.str "refused"]) nu
              have hn : decide (V.ref u = V.non) = onB f s (.int (f - 3 + (i' : Nat))) := by rw [off]; rfl
              revert q26 hn
              generalize upd H25 u (.tup [.str "refused"]) = H26
              generalize V.ref u = tv
              intro q26 hn
              exact fin tv H26 (e25.trans (ExtN.of_same q26)) (Tabs.same t25 q26) hn
            case refine_1 =>
              cases ez
              exact fin .non H25 e25 t25 (by rw [show onB f s (.int (f - 3 + (i' : Nat))) = true from decide_eq_true on]; rfl)
          case after8 =>
            intro tv H25 e25 t25 dec
            have w25 := w24.ext e25 t25
            refine ⟨rfl, _, rfl, _, rfl, st, f, s, _, rfl, w25.hst, s0, True.intro, rfl, _, rfl, ?_⟩
            rw [dec, show (!decide (V.bl (onB f s (.int (f - 3 + (i' : Nat)))) = V.bl (onB f s (.int (f - 3 + (i' : Nat)))))) = false by simp]
            refine iteF ?_
            refine ⟨_, rfl, _, rfl, st, f, s, _, rfl, w25.hst, s0, True.intro, _, rfl, ?_⟩
            cases ob : onB f s (.int (f - 3 + (i' : Nat))) with
            | false => exact iteF (iteF ⟨_, rfl, w25⟩)
            | true =>
              refine iteT ?_
              have on : (f - 3 + (i' : Nat) - f) % s = 0 := of_decide_eq_true ob
              obtain ⟨dx, fx, ix, a1, a2, a3, a4, a5⟩ := ld_ins w25.at_
              refine ⟨_, rfl, x, dx, fx, rfl, ix, a5, _, rfl, x, (⟨f, s, g, r, n⟩ : LP), F, _, rfl, w25.at_, ok, on, _, rfl, _, rfl, D, f, s, g, r, n, _, _, rfl, w25.dl, s0, s60, n0, by omega, ok.idx on, ?_⟩
              rw [show valL s n (rowOf (⟨f, s, g, r, n⟩ : LP) F) (f - 3 + (i' : Nat)) = F (f - 3 + (i' : Nat)) from ok.sem.val on]
              refine ⟨rfl, _, rfl, ?_⟩
              rw [dec_V, decide_eq_true rfl]
              exact iteF ⟨_, rfl, w25⟩
        rintro σ H24 ⟨v17, rfl, w24⟩
        clear w23
        -- at odd things
        refine ⟨_, rfl, d, c, rfl, w24.S, fun ov H25 hov S25 k25 => ?_⟩
        have w25 := w24.keep k25 S25
        have odv : Od H25 ov := Ov.od (hov.same newO_same) mask_same
        refine ⟨_, rfl, st, _, 0, _, rfl, rfl, SqT.of w25.hst, rfl, f, rfl, log_okB hf5, _, rfl, st, _, 0, _, rfl, rfl, SqT.of w25.hst, rfl, (by show 1 ≤ sizeLine; decide), fun l1 nl1 => ?_⟩
        have q26 := same_new (o := .lst [.int f]) nl1
        have h1 := upd_same (H := H25) (a := l1) (o := .lst [.int f])
        refine ⟨_, rfl, (by show 6 ≤ sizeLine; decide), fun l2 nl2 => ⟨l2, rfl, ⟨_, SqL.of upd_same⟩, ?_⟩⟩
        have q27 := same_new (o := .lst [ov, .non, .bl true, .str (Str.ofString (toString f)), .ref l1, .ref st]) nl2
        have h2 := upd_same (H := upd H25 l1 (.lst [.int f])) (a := l2) (o := .lst [ov, .non, .bl true, .str (Str.ofString (toString f)), .ref l1, .ref st])
        have h1 := q27 _ _ h1
        have w27 := (w25.same q26).same q27
        have odv := Od.same (q26.trans q27) odv
        revert h1 h2 w27 odv
        generalize upd (upd H25 l1 (.lst [.int f])) l2 (.lst [ov, .non, .bl true, .str (Str.ofString (toString f)), .ref l1, .ref st]) = H27
        intro h2 h1 w27 odv
        have ods : ∀ y, y ∈ [ov, .non, .bl true, .str (Str.ofString (toString f)), .ref l1, .ref st] → Od H27 y := by
          intro y m
          simp only [List.mem_cons, List.not_mem_nil, or_false] at m
          rcases m with rfl | rfl | rfl | rfl | rfl | rfl
          · exact odv
          · exact True.intro
          · exact True.intro
          · exact True.intro
          · exact ⟨_, _, h1, rfl⟩
          · exact ⟨_, _, w27.hst, rfl⟩
        clear q26 q27 nl1 nl2 w25 hov k25 S25 w24
        refine for_it walk_list (fun i' σ H28 => ∃ (v18 : Option V), σ = [some (.ref a), some (.ref d), some (.int (0 + (i : Nat))), some (.int n), some (.ref p), some (.ref st), some (.ref et), some (.ref D), some (.ref x), some (.ref hl), some (.ref x2), v11, v12, v13, v14, v15, v16, v17, v18] ∧ ExtN H27 H28 ∧ Tabs (lamT P1) H28) ⟨_, rfl, ExtN.of_same (Same.refl _), w27.tabs⟩ (fun i' σ H28 _ z => SqL.of (z.choose_spec.2.1 _ _ h2 (by nofun))) ?_ ?_
        · rintro i' y σ H28x H28 hi' ⟨v18, rfl, e28, t28⟩ ⟨rfl, hy⟩
          have odY := od_ext e28 (ods y (List.mem_of_getElem? hy))
          have w28 := w27.ext e28 t28
          refine (fun (fin : ∀ (tv : V) (H29 : Hp), ExtN H28 H29 → Tabs (lamT P1) H29 → decide (tv = V.non) = onB f s y → (?TT9 : V → Hp → Prop) tv H29) => ?main9) ?after9
          case main9 =>
            refine ⟨w28.tabs, fun H29 e29 t29 => ?_⟩
            have w29 := w28.ext e29 t29
            obtain ⟨dx, fx, ix, a1, a2, a3, a4, a5⟩ := ld_ins w29.at_
            refine ⟨_, rfl, x, dx, fx, rfl, ix, a5, _, rfl, x, y, (⟨f, s, g, r, n⟩ : LP), F, rfl, w29.at_, ok, od_ext e29 odY, fun z ez on => ?_, fun off => .inr ⟨rfl, fun u nu => ?_⟩⟩
            case refine_2 =>
              have q30 := same_new (o := .tup [.str "refused"]) nu
              have hn : decide (V.ref u = V.non) = onB f s y := by rw [off]; rfl
              revert q30 hn
              generalize upd H29 u (.tup [.str "refused"]) = H30
              generalize V.ref u = tv
              intro q30 hn
              exact fin tv H30 (e29.trans (ExtN.of_same q30)) (Tabs.same t29 q30) hn
            case refine_1 =>
              have hn : decide (V.non = V.non) = onB f s y := by rw [ez, show onB f s (.int z) = true from decide_eq_true on]; rfl
              exact fin .non H29 e29 t29 hn
          case after9 =>
            intro tv H29 e29 t29 dec
            have w29 := w28.ext e29 t29
            refine ⟨rfl, _, rfl, _, rfl, st, f, s, _, rfl, w29.hst, s0, od_ext e29 odY, rfl, _, rfl, ?_⟩
            rw [dec, show (!decide (V.bl (onB f s y) = V.bl (onB f s y))) = false by simp]
            exact iteF ⟨_, rfl, e28.trans e29, t29⟩
        rintro σ H28 ⟨v18, rfl, e28, t28⟩
        have w28 := w27.ext e28 t28
        exact ⟨_, _, _, _, _, _, _, _, _, _, _, _, _, _, _, _, _, rfl, w28.S, w28.tabs⟩
    · rintro σ H1 ⟨v2, v3, v4, v5, v6, v7, v8, v9, v10, v11, v12, v13, v14, v15, v16, v17, v18, rfl, S1, tabs⟩
      refine ⟨(by show 2 ≤ sizeLine; decide), fun b1 nb1 => ⟨(by show 2 ≤ sizeLine; decide), fun b2 nb2 => ⟨(by show 2 ≤ sizeLine; decide), fun b3 nb3 => fun x dx nx ndx ne => ?_⟩⟩⟩
      have q1 := same_new (o := .tup [.int 5, .int 3]) nb1
      have q2 := same_new (o := .tup [.int 0, .int 1]) nb2
      have q3 := same_new (o := .lst [.int 10, .int 14]) nb3
      have ok5 : LOk (⟨5, 3, 0, 1, 6⟩ : LP) (valL 3 6 [10, 14]) := ⟨rok5.sem.1, by show (3 : Int) ≤ 60; decide, by show (1 : Int) ≤ 60; decide, by show (6 : Int) ≤ 3600; decide⟩
      have row5 : rowOf (⟨5, 3, 0, 1, 6⟩ : LP) (valL 3 6 [10, 14]) = [10, 14] := rok5.sem.2
      refine mk_ok2 (L := (⟨5, 3, 0, 1, 6⟩ : LP)) (F := valL 3 6 [10, 14]) nx ndx ne rfl (by rw [row5]; exact upd_same) (q3 _ _ (q2 _ _ upd_same)) (q3 _ _ upd_same) ok5 fun H2 s2 ld => ?_
      refine name_step (σ' := [some (.ref a), some (.ref d), v2, v3, v4, v5, v6, v7, v8, v9, v10, some (.ref x), v12, v13, v14, v15, v16, v17, v18]) rfl ?_
      obtain ⟨dx, fx, ix, a1, a2, a3, a4, a5⟩ := ld_ins ld
      refine ⟨_, rfl, x, dx, fx, rfl, ix, a5, x, (⟨5, 3, 0, 1, 6⟩ : LP), valL 3 6 [10, 14], 2, rfl, ld, ok5, (by decide), ?_⟩
      refine ⟨_, rfl, x, dx, fx, rfl, ix, a5, x, (⟨5, 3, 0, 1, 6⟩ : LP), valL 3 6 [10, 14], 5, rfl, ld, ok5, (by decide), ?_⟩
      refine ⟨_, rfl, x, dx, fx, rfl, ix, a5, x, (⟨5, 3, 0, 1, 6⟩ : LP), valL 3 6 [10, 14], 8, rfl, ld, ok5, (by decide), ?_⟩
      refine ⟨_, rfl, x, dx, fx, rfl, ix, a4, x, _, _, rfl, ld, fun pr npr => ⟨(by show 4 ≤ sizeLine; decide), fun l1 nl1 => ⟨(by show 2 ≤ sizeLine; decide), fun l2 nl2 => ⟨(by show 4 ≤ sizeLine; decide), fun l3 nl3 => ?_⟩⟩⟩⟩
      rw [row5] at nl1 nl2 nl3 ⊢
      rw [at5a, at5b, at5c] at nl2 nl3 ⊢
      have e1 := same_new (o := .lst [.int 10, .int 14, .int 16, .ref pr]) nl1
      have e2 := same_new (o := .lst [.int 10, .int 14]) nl2
      have e3 := same_new (o := .lst [.int 10, .int 14, .int 16, .ref l2]) nl3
      refine ⟨endD, endD, .lst (SqL.of (e3 _ _ (e2 _ _ upd_same))) (.cons (.int _) (.cons (.int _) (.cons (.int _) (.cons (.lst (SqL.of (e3 _ _ (e2 _ _ (e1 _ _ upd_same)))) (.cons (.int _) (.cons (.int _) .nil))) .nil)))), .lst (SqL.of upd_same) (.cons (.int _) (.cons (.int _) (.cons (.int _) (.cons (.lst (SqL.of (e3 _ _ upd_same)) (.cons (.int _) (.cons (.int _) .nil))) .nil)))), end_shaped, end_shaped, ?_⟩
      rw [end_eqv]
      exact kend _

end
end L15
namespace L15
open PySem PySem.Spec L2 Rt Rs Ld LamX
open PyProof.Rows hiding St
structure DefsL (K : PySem.W.Frag) (mg : Str → Option Value) : Prop where
  isInt : At K mg "is_integer" sIsInt
  on : At K mg "is_on" sOn
  alike : At K mg "are_alike_clocks" sAlike
  isPer : At K mg "is_period" sIsPer
  isClk : At K mg "is_clock" sIsClk
  wRow : At K mg "wrong_in_row" sWRow
  wLead : At K mg "wrong_in_lead" sWLead
  source : At K mg "_law_source" sSource
  pick : At K mg "_law_pick" sPick
  of : At K mg "_law_of" sOf
  odd : At K mg "_law_odd" sOdd
  clock : At K mg "_law_clock" sClock
  lup : At K mg "_law_up" sLUp
  lInt : At K mg "_law_is_integer" sLInt
  lOn : At K mg "_law_is_on" sLOn
  value : At K mg "_law_value" sValue
  numbers : At K mg "_law_numbers" sNumbers
  lAlike : At K mg "_law_alike" sLAlike
  row : At K mg "_law_row" sRow
  lead : At K mg "_law_lead" sLead
  pas : At K mg "_law_period_and_steps" sPas
  like : At K mg "_law_is_like" sLike
  lClk : At K mg "_law_is_clock" sLClk
  wrong : At K mg "_law_wrong" sWrong
  told : At K mg "_law_told" sTold
  bent : At K mg "_law_bent_clocks" sBent
  near : At K mg "_law_near" sNear
  same : At K mg "_law_is_same" sSame
  law : At K mg "law" sLaw
structure NilL (mg : Str → Option Value) : Prop where
  zabs : mg "abs" = none
  zint : mg "int" = none
  zmax : mg "max" = none
  zlen : mg "len" = none
  zisinstance : mg "isinstance" = none
  zbool : mg "bool" = none
  zrange : mg "range" = none
  zlist : mg "list" = none
  ztuple : mg "tuple" = none
  zsorted : mg "sorted" = none
  zrepr : mg "repr" = none
  zzip : mg "zip" = none
  zall : mg "all" = none
  zmin : mg "min" = none
  zenumerate : mg "enumerate" = none
  zstr : mg "str" = none
structure MsL (K : PySem.W.Frag) (C : Addr) : Prop where
  start : MAt K C "start" "Lead.start" sMStart
  end_ : MAt K C "end" "Lead.end" sMEnd
  period : MAt K C "period" "Lead.period" sMPeriod
  row : MAt K C "row" "Lead.row" sMRow
  at_ : MAt K C "at" "Lead.at" sMAt
  eq : MAt K C "__eq__" "Lead.__eq__" sEq
  ne : MAt K C "__ne__" "Lead.__ne__" sNe
/-- which clause takes what -/
structure Exm (K : PySem.W.Frag) (C CB CW : Addr) : Prop where
  bb : PySem.W.exmOne K (.ref CB) (.ref CB) = some true
  wb : PySem.W.exmOne K (.ref CW) (.ref CB) = some false
  ww : PySem.W.exmOne K (.ref CW) (.ref CW) = some true
  kl : PySem.W.kitOne K (.type "list") (.ref C) = some false
  ki : PySem.W.kitOne K (.type "int") (.ref C) = some false
section
variable {P : Program} {w : World} {K : PySem.W.Frag} {mg : Str → Option Value} {base : Heap} {C CB CW c1 P1 : Addr}
theorem wdsL (N : NilL mg) (gs : ∃ t, mg "GREATEST_STEP" = some (.int 60 t)) : Wds mg := ⟨N.zabs, N.zint, N.zmax, N.zlen, N.zisinstance, N.zbool, N.zrange, N.zlist, N.ztuple, N.zsorted, N.zrepr, N.zzip, N.zall, N.zmin, N.zenumerate, gs⟩
theorem the_law (A : DefsL K mg) (T : Wds mg) (zstr : mg "str" = none) (cn : ClsL K C) (ic : C8.InsC K C) (hC : mg "Lead" = some (.ref C)) (mkA : MkAt K mg "Lead" C "Lead.__init__" sInit) (m : MsL K C) (OW : Easy K mg "NoWay" CW) (OB : Own K mg "BadLead" "BadLead.__init__" "path" sBadLead veT "ValueError.__new__" CB) (ex : Exm K C CB CW)
    (L1 : LamT K mg "law" c1 P1) {fa : Addr} (ha : mg "law" = some (.ref fa)) :
    ∃ fd : FuncData, (∀ (s : Shared) (u : Value), BindsTo s fd ⟨[u], []⟩ [("script", u)]) ∧ ∀ base : Heap, TabB base mg c1 P1 → FnG P w K mg base 11 fa fd ["script"] (spLaw K P1) := by
  obtain ⟨f, fd, F, mf⟩ := A.law.ex
  cases ha.symm.trans mf
  refine ⟨fd, ?_, fun base TB => ?_⟩
  · obtain ⟨oc, od, kV, doc, pm, an, cdv, ct, osl, rfl, lk, hcd⟩ := F.ex
    exact fun s u => .of_eq rfl
  have EF : ExcL K mg CB CW := ⟨OB.m, OW.m, ⟨OB.M.cc.hg, OB.M.cc.hk, OB.M.cc.hs, OB.M.cc.hd⟩, OB.no, ex.bb, ex.wb, ex.ww⟩
  have fInt : Cf P w K mg base 1 "is_integer" spIsInt := A.isInt.cf (fun f fd F => ok_isInt2 F T) fun f fd F => F.binds fun _ _ _ _ _ _ us hl => match us, hl with | [_], _ => rfl
  have fOn : Cf P w K mg base 2 "is_on" spOn := A.on.cf (fun f fd F => ok_on F fInt) fun f fd F => F.binds fun _ _ _ _ _ _ us hl => match us, hl with | [_, _], _ => rfl
  have fAl : Cf P w K mg base 3 "are_alike_clocks" spAlike := A.alike.cf (fun f fd F => ok_alike F fOn) fun f fd F => F.binds fun _ _ _ _ _ _ us hl => match us, hl with | [_, _], _ => rfl
  have fPer : Cf P w K mg base 2 "is_period" spIsPer := A.isPer.cf (fun f fd F => ok_isPer F T fInt) fun f fd F => F.binds fun _ _ _ _ _ _ us hl => match us, hl with | [_, _], _ => rfl
  have fClk : Cf P w K mg base 2 "is_clock" spIsClk := A.isClk.cf (fun f fd F => ok_isClk F T fInt) fun f fd F => F.binds fun _ _ _ _ _ _ us hl => match us, hl with | [_], _ => rfl
  have fWr : Cf P w K mg base 3 "wrong_in_row" spWRow := A.wRow.cf (fun f fd F => ok_wRow F T fOn) fun f fd F => F.binds fun _ _ _ _ _ _ us hl => match us, hl with | [_, _, _], _ => rfl
  have fWl : Cf P w K mg base 4 "wrong_in_lead" spWLead := A.wLead.cf (fun f fd F => ok_wLead F T fClk fPer fWr) fun f fd F => F.binds fun _ _ _ _ _ _ us hl => match us, hl with | [_, _, _, _], _ => rfl
  have dPer : Cf P w K mg base 2 "is_period" spPerD := A.isPer.cf (fun f fd F => ok_perD F T fInt) fun f fd F => F.binds fun _ _ _ _ _ _ us hl => match us, hl with | [_, _], _ => rfl
  have dClk : Cf P w K mg base 2 "is_clock" spClkD := A.isClk.cf (fun f fd F => ok_clkD F T fInt) fun f fd F => F.binds fun _ _ _ _ _ _ us hl => match us, hl with | [_], _ => rfl
  have dWr : Cf P w K mg base 3 "wrong_in_row" spWRowD := A.wRow.cf (fun f fd F => ok_wRowD F T fOn) fun f fd F => F.binds fun _ _ _ _ _ _ us hl => match us, hl with | [_, _, _], _ => rfl
  have dWl : Cf P w K mg base 4 "wrong_in_lead" spWLeadD := A.wLead.cf (fun f fd F => ok_wLeadD F T dClk dPer dWr) fun f fd F => F.binds fun _ _ _ _ _ _ us hl => match us, hl with | [_, _, _, _], _ => rfl
  have mk : Mkr P w K mg base 5 C "Lead" (spInit C) := mkA.mkr (fun f fd F => ok_init F T cn fWl) (fun f fd F => F.binds fun _ _ _ _ _ _ us hl => match us, hl with | [_, _, _, _, _], _ => rfl)
  have mk2 : MkrX P w K mg base 5 C "Lead" (spInitD C CB) := mkA.mkrx (fun f fd F => ok_initD F T cn OB dWl) (fun f fd F => F.binds fun _ _ _ _ _ _ us hl => match us, hl with | [_, _, _, _, _], _ => rfl)
  have mk3 : Mkr P w K mg base 5 C "Lead" (spInitN C) := mkA.mkr (fun f fd F => ok_initN F T cn dWl) (fun f fd F => F.binds fun _ _ _ _ _ _ us hl => match us, hl with | [_, _, _, _, _], _ => rfl)
  have mS : Md P w K mg base 1 C "start" (spMStart C) := m.start.md (fun f fd F => ok_mstart F T cn) (fun f fd F => F.binds fun _ _ _ _ _ _ us hl => match us, hl with | [_], _ => rfl)
  have mE : Md P w K mg base 1 C "end" (spMEnd C) := m.end_.md (fun f fd F => ok_mend F T cn) (fun f fd F => F.binds fun _ _ _ _ _ _ us hl => match us, hl with | [_], _ => rfl)
  have mP : Md P w K mg base 1 C "period" (spMPeriod C) := m.period.md (fun f fd F => ok_mperiod F T cn) (fun f fd F => F.binds fun _ _ _ _ _ _ us hl => match us, hl with | [_], _ => rfl)
  have mR : Md P w K mg base 1 C "row" (spMRow C) := m.row.md (fun f fd F => ok_mrow F T cn) (fun f fd F => F.binds fun _ _ _ _ _ _ us hl => match us, hl with | [_], _ => rfl)
  have mA : Md P w K mg base 3 C "at" (spMAt C) := m.at_.md (fun f fd F => ok_mat F T cn fOn) (fun f fd F => F.binds fun _ _ _ _ _ _ us hl => match us, hl with | [_, _], _ => rfl)
  have M : MethL P w K mg base C := ⟨mS, mE, mP, mR, mA⟩
  have mAt : MdX P w K mg base 3 C "at" (spAtD C CW) := m.at_.mdx (fun f fd F => ok_matD F T cn OW fOn) (fun f fd F => F.binds fun _ _ _ _ _ _ us hl => match us, hl with | [_, _], _ => rfl)
  have mEq : Md P w K mg base 4 C "__eq__" (spEqM C) := m.eq.md (fun f fd F => ok_eq F T cn hC ic fAl) (fun f fd F => F.binds fun _ _ _ _ _ _ us hl => match us, hl with | [_, _], _ => rfl)
  have mNe : Md P w K mg base 5 C "__ne__" (spNeM C) := m.ne.md (fun f fd F => ok_ne F mEq) (fun f fd F => F.binds fun _ _ _ _ _ _ us hl => match us, hl with | [_, _], _ => rfl)
  have mEqT : Md P w K mg base 4 C "__eq__" (spEqT K C) := m.eq.md (fun f fd F => ok_eqT F T cn hC fAl) (fun f fd F => F.binds fun _ _ _ _ _ _ us hl => match us, hl with | [_, _], _ => rfl)
  have mNeT : Md P w K mg base 5 C "__ne__" (spNeT K C) := m.ne.md (fun f fd F => ok_neT F mEqT) (fun f fd F => F.binds fun _ _ _ _ _ _ us hl => match us, hl with | [_, _], _ => rfl)
  have cP : Cb P w K mg base 1 "_law_pick" spPick := A.pick.cb (fun f fd F => ok_pick F T.zlen T.zmax T.zint) fun f fd F => F.binds fun _ _ _ _ _ _ us hl => match us, hl with | [_, _], _ => rfl
  have cO : Cb P w K mg base 2 "_law_of" spOf := A.of.cb (fun f fd F => ok_of F T.zlen cP) fun f fd F => F.binds fun _ _ _ _ _ _ us hl => match us, hl with | [_, _], _ => rfl
  have cSrc : Cb P w K mg base 1 "_law_source" (spSource K) := A.source.cb (fun f fd F => ok_source F T.zabs T.zint) fun f fd F => F.binds fun _ _ _ _ _ _ us hl => match us, hl with | [_], _ => rfl
  have cOd : Cb P w K mg base 3 "_law_odd" spOdd := A.odd.cb (fun f fd F => ok_odd F cO) fun f fd F => F.binds fun _ _ _ _ _ _ us hl => match us, hl with | [_], _ => rfl
  have cCk : Cb P w K mg base 3 "_law_clock" spClock := A.clock.cb (fun f fd F => ok_clock F cP cO) fun f fd F => F.binds fun _ _ _ _ _ _ us hl => match us, hl with | [_, _], _ => rfl
  have cU : Cb P w K mg base 1 "_law_up" spLUp := A.lup.cb (fun f fd F => ok_lup F T) fun f fd F => F.binds fun _ _ _ _ _ _ us hl => match us, hl with | [_, _], _ => rfl
  have cI : Cb P w K mg base 1 "_law_is_integer" spIsInt := A.lInt.cb (fun f fd F => ok_lInt F T) fun f fd F => F.binds fun _ _ _ _ _ _ us hl => match us, hl with | [_], _ => rfl
  have cOn : Cb P w K mg base 2 "_law_is_on" spOn := A.lOn.cb (fun f fd F => ok_lOn F T cI) fun f fd F => F.binds fun _ _ _ _ _ _ us hl => match us, hl with | [_, _], _ => rfl
  have cV : Cb P w K mg base 1 "_law_value" spValue := A.value.cb (fun f fd F => ok_value F T) fun f fd F => F.binds fun _ _ _ _ _ _ us hl => match us, hl with | [_, _], _ => rfl
  have cN : Cb P w K mg base 1 "_law_numbers" spNumbers := A.numbers.cb (fun f fd F => ok_numbers F T) fun f fd F => F.binds fun _ _ _ _ _ _ us hl => match us, hl with | [_, _], _ => rfl
  have cAk : Cb P w K mg base 3 "_law_alike" spLAlike := A.lAlike.cb (fun f fd F => ok_lAlike F cO) fun f fd F => F.binds fun _ _ _ _ _ _ us hl => match us, hl with | [_, _], _ => rfl
  have cR : Cb P w K mg base 3 "_law_row" spRow := A.row.cb (fun f fd F => ok_row F T cP cO cN cU) fun f fd F => F.binds fun _ _ _ _ _ _ us hl => match us, hl with | [_, _, _, _], _ => rfl
  have cLd : Cb P w K mg base 7 "_law_lead" (spLead C) := A.lead.cb (fun f fd F => ok_lead F T mk cR) fun f fd F => F.binds fun _ _ _ _ _ _ us hl => match us, hl with | [_, _, _, _], _ => rfl
  have cPs : Cb P w K mg base 3 "_law_period_and_steps" spPas := A.pas.cb (fun f fd F => ok_pas F T cO) fun f fd F => F.binds fun _ _ _ _ _ _ us hl => match us, hl with | [_], _ => rfl
  have cLk : Cb P w K mg base 4 "_law_is_like" (spLike C) := A.like.cb (fun f fd F => ok_like F T cn M cN cV) fun f fd F => F.binds fun _ _ _ _ _ _ us hl => match us, hl with | [_, _], _ => rfl
  have cLc : Cb P w K mg base 2 "_law_is_clock" spLClk := A.lClk.cb (fun f fd F => ok_lClk F T cI) fun f fd F => F.binds fun _ _ _ _ _ _ us hl => match us, hl with | [_], _ => rfl
  have cWr : Cb P w K mg base 3 "_law_wrong" spWLeadD := A.wrong.cb (fun f fd F => ok_wrong F T cI cOn cLc) fun f fd F => F.binds fun _ _ _ _ _ _ us hl => match us, hl with | [_, _, _, _], _ => rfl
  have cB : Cb P w K mg base 1 "_law_bent_clocks" spBent := A.bent.cb (fun f fd F => ok_bent F T zstr) fun f fd F => F.binds fun _ _ _ _ _ _ us hl => match us, hl with | [_], _ => rfl
  have cNr : Cb P w K mg base 4 "_law_near" (spNear C) := A.near.cb (fun f fd F => ok_near F T zstr cP cO cOd cB) fun f fd F => F.binds fun _ _ _ _ _ _ us hl => match us, hl with | [_, _], _ => rfl
  have cSm : Cb P w K mg base 3 "_law_is_same" spSame := A.same.cb (fun f fd F => ok_same F T cOn) fun f fd F => F.binds fun _ _ _ _ _ _ us hl => match us, hl with | [_, _], _ => rfl
  exact ok_law F (L1.code mf) TB T zstr cn M EF A.told ex.kl ex.ki mEq mNe mEqT mNeT mAt mk mk3 mk2 cSrc cPs cCk cAk cLd cLk cNr cWr cSm cOn cV cOd
theorem finish {h : Heap} {fa : Addr} {q : Program} {n : Nat} (X : K.In h) (G : h.Ns mainGlobals mg) (mk : MkAt K mg "Lead" C "Lead.__init__" sInit) (hC : mg "Lead" = some (.ref C)) (cn : ClsL K C) (ic : C8.InsC K C) (m : MsL K C) (OW : Easy K mg "NoWay" CW) (OB : Own K mg "BadLead" "BadLead.__init__" "path" sBadLead veT "ValueError.__new__" CB) (ex : Exm K C CB CW)
    (one : tabs1 K "law" = true) (r1 : ((recsOf q).any fun e => e.name == "law") = true) (A : DefsL K mg) (N : NilL mg) (gs : ∃ t, mg "GREATEST_STEP" = some (.int 60 t)) (nl : n ≤ 63) (ha : mg "law" = some (.ref fa)) :
    ∃ (fd : FuncData) (ts : List (Str × Addr × Addr)) (sp : Sp), (∀ t ∈ ts, LamT K mg t.1 t.2.1 t.2.2 ∧ ((recsOf q).any fun e => e.name == t.1) = true) ∧ (∀ (s : Shared) (u : Value), BindsTo s fd ⟨[u], []⟩ [("script", u)]) ∧
      (∀ (H : Hp) (a : Addr) (ns : List Int), ns.length ≤ n → (∀ t ∈ ts, H t.2.2 = some (.tbl #[])) → SqL K H a (ns.map V.int) → sp [.ref a] H (fun v _ => v = .bl true) E0) ∧
      ∀ base : Heap, K.In base → base.Ns mainGlobals mg → (∀ t ∈ ts, TabB base mg t.2.1 t.2.2) → FnG P w K mg base 11 fa fd ["script"] sp := by
  obtain ⟨c1, P1, L1⟩ := tabs1_of X G one
  obtain ⟨fd, b, F⟩ := the_law (P := P) (w := w) A (wdsL N gs) N.zstr cn ic hC mk m OW OB ex L1 ha
  refine ⟨fd, [("law", c1, P1)], spLaw K P1, ?_, b, ?_, ?_⟩
  · intro t mt
    cases List.mem_singleton.mp mt
    exact ⟨L1, r1⟩
  · intro H a ns few tb hS
    refine ⟨a, ns, rfl, hS, Nat.le_trans few nl, ?_, fun _ => rfl⟩
    intro p mp
    cases List.mem_singleton.mp mp
    exact TabS.nil (tb _ List.mem_cons_self)
  · intro base _ _ tb
    exact F base (tb _ List.mem_cons_self)
end
end L15

open PySem PySem.W PyProof.Rows
set_option maxRecDepth 100000 in
set_option maxHeartbeats 0 in
theorem PySem.Challenge.cw_roundticks_k15_leads_judged_and_asked_holds : PySem.Challenge.rw_roundticks_k15_leads_judged_and_asked.Holds := by
  w_on; o_law; k_head; (case hw => w_witness2)
  k_fill
  refine Rt.walk_gT (l := PySem.Challenge.rw_roundticks_k15_leads_judged_and_asked) (k := 11) (x := "script") rfl (by decide) rfl ⟨rfl, by decide, by decide⟩ (fun w h Y => PySem.W.km_in_of Y) ?F
  case F =>
    intro w mg fa h KX G hmg
    refine' L15.finish KX G ?mk ?hC ?cn ?ic ?ms ?ou ?ob ?ex ?one ?r1 ?defs ?nils ?gs (by decide) hmg
    case mk =>
      refine' Rt.mkat_mk KX G ?n ?mk ?kc ?a ?i ?l ?c ?k
      (case n => k_is)
      (case mk => k_is)
      (case kc => k_is)
      (case a => k_is)
      (case i => k_is)
      (case l => k_is)
      (case c => k_is)
      (case k => k_is)
    case hC => exact PySem.W.mg_of KX G (by k_is)
    case cn => (constructor; (constructor <;> k_is); all_goals (unfold L2.NoAttr; k_is))
    case ic => (constructor; (constructor <;> k_is); (case me => exact if_pos (beq_self_eq_true _)); all_goals k_is)
    case ms =>
      constructor
      all_goals
        refine' Rt.mat_mk ?a ?i ?l ?c ?k
        (case a => k_is)
        (case i => k_is)
        (case l => k_is)
        (case c => k_is)
        (case k => k_is)
    case ou =>
      refine' Rt.easy_mk KX G ?ea ?ekp ?ecc ?eqq ?ety
      (case ea => k_is)
      (case ekp => k_is)
      (case ecc => (constructor <;> k_is))
      (case eqq => kernel_rfl)
      (case ety => k_is)
    case ob =>
      refine' Rt.own_mk KX G ?oa ?oover ?osa ?occ ?okp ?oty ?oi ?ofnd ?otf ?ono ?ol ?oc ?ok
      (case oa => k_is)
      (case oover => kx_is)
      (case osa => k_is)
      (case occ => (constructor <;> k_is))
      (case okp => k_is)
      (case oty => k_is)
      (case oi => kx_is)
      (case ofnd => k_is)
      (case otf => k_is)
      (case ono => k_is)
      (case ol => k_is)
      (case oc => k_is)
      (case ok => k_is)
    case ex => (constructor <;> first | kernel_rfl | k_is | (unfold PySem.W.kitOne; k_is))
    case one => kernel_rfl
    case r1 => kernel_rfl
    case defs =>
      constructor
      all_goals
        refine' Rt.at_mk KX G ?a ?l ?c ?k
        (case a => k_is)
        (case l => k_is)
        (case c => k_is)
        (case k => k_is)
    case nils =>
      constructor
      all_goals
        refine' PySem.W.mg_none_of KX G ?z
        (case z => k_is)
    case gs => exact ⟨_, PySem.W.mg_of KX G (by k_is)⟩
